"""The calls on one window: read from one list of whole numbers, answered in another."""

from onewindow.service import left_at, over_at, present_at, since_whom, stays_of, waits_of

NO_PERSON = -2
NOBODY = -6
NOT_STARTED = -11
NOT_ALLOWED = -22
FULL = -28

LATEST_COMING = 300
LONGEST_SERVED = 60
MOST_PERSONS = 20
LATEST_ASKED = 2000

START = 0


class Window:
    """Who has come to one window: (coming, minutes) of each, in the order in which they come."""

    def __init__(self):
        self.started = False
        self.people = []

    def lacks(self, person):
        """Whether there's no such person."""
        return person >= len(self.people)


# Each call below takes the window and the call's own numbers, and gives back what is answered:
# so they all stand in one table, whatever many numbers a call has.


def start(window, numbers):
    """Nobody is there."""
    window.started = True
    window.people = []
    return [0]


def come(window, numbers):
    """One more comes."""
    coming = numbers[0]
    minutes = numbers[1]
    people = window.people
    if coming > LATEST_COMING or minutes > LONGEST_SERVED:
        return [NOT_ALLOWED]
    # Nobody came later than the last one, so the last one stands for all.
    if people and coming < people[-1][0]:
        return [NOT_ALLOWED]
    if len(people) >= MOST_PERSONS:
        return [FULL]
    people.append((coming, minutes))
    return [len(people) - 1]


def drop(window, numbers):
    """It's as if one hadn't come."""
    person = numbers[0]
    if window.lacks(person):
        return [NO_PERSON]
    dropped = window.people.pop(person)
    return [dropped[1]]


def wait(window, numbers):
    """How many minutes one waits."""
    person = numbers[0]
    if window.lacks(person):
        return [NO_PERSON]
    return [waits_of(window.people)[person]]


def times(window, numbers):
    """When one comes, begins, is done."""
    person = numbers[0]
    if window.lacks(person):
        return [NO_PERSON]
    return list(stays_of(window.people)[person])


def since(window, numbers):
    """Since whom the window wasn't free for one."""
    person = numbers[0]
    if window.lacks(person):
        return [NO_PERSON]
    return [since_whom(window.people, person)]


def wait_together(window, numbers):
    """How many minutes all wait, and how many persons wait at all."""
    waits = waits_of(window.people)
    return [sum(waits), len([minutes for minutes in waits if minutes > 0])]


def longest(window, numbers):
    """The longest wait, and the first who waits so long."""
    if not window.people:
        return [NOBODY]
    waits = waits_of(window.people)
    most = max(waits)
    return [most, waits.index(most)]


def over(window, numbers):
    """When the last one is done."""
    return [over_at(window.people)]


def work(window, numbers):
    """What's left at a minute."""
    minute = numbers[0]
    if minute > LATEST_ASKED:
        return [NOT_ALLOWED]
    return [left_at(window.people, minute)]


def present(window, numbers):
    """How many are there at a minute, and who."""
    minute = numbers[0]
    if minute > LATEST_ASKED:
        return [NOT_ALLOWED]
    there = present_at(window.people, minute)
    return [len(there)] + there


# At a call's number: what answers it, and how many numbers it has.
CALLS = (
    (start, 0),
    (come, 2),
    (drop, 1),
    (wait, 1),
    (times, 1),
    (since, 1),
    (wait_together, 0),
    (longest, 0),
    (over, 0),
    (work, 1),
    (present, 1),
)


def answer_of(window, call, numbers):
    """What one call answers."""
    if call != START and not window.started:
        return [NOT_STARTED]
    return CALLS[call][0](window, numbers)


def answers(calls):
    """What the calls answer, one behind another on a new window: of each how many numbers, then these."""
    window = Window()
    told = []
    place = 0
    while place < len(calls):
        call = calls[place]
        behind = place + 1 + CALLS[call][1]
        answer = answer_of(window, call, calls[place + 1:behind])
        told.append(len(answer))
        told.extend(answer)
        place = behind
    return told
