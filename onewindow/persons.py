"""The calls on one window: read from one list of whole numbers, answered in another."""

from onewindow.service import stays_of, stays_in_order, is_order_of_all, waits_of, since_whom, over_at
from onewindow.service import left_at, present_at, served_at, idle_before, spans_of, gap_behind, fullest_minute

NO_PERSON = -2
NOBODY = -6
NOT_STARTED = -11
NOT_ALLOWED = -22
FULL = -28
IDLE = -33
NO_LIMIT = -33

LATEST_COMING = 300
LONGEST_SERVED = 60
MOST_LONGER = 60
MOST_PERSONS = 20
LATEST_ASKED = 2000

START = 0


class Window:
    """Who has come to one window: (coming, minutes) of each, in the order in which they come."""

    def __init__(self):
        self.started = False
        self.people = []

    def lacks(self, person):
        """Whether there's no such person."""
        return person >= len(self.people)

    def stays(self):
        """The stay of each."""
        return stays_of(self.people)


def waits_and_over(stays):
    """How many minutes all wait, together, and when the last one is done."""
    return [sum(waits_of(stays)), over_at(stays)]


# Each call below takes the window and the call's own numbers, and gives back what is answered:
# so they all stand in one table, whatever many numbers a call has. A list's numbers stand behind the others.


def start(window, numbers):
    """Nobody is there."""
    window.started = True
    window.people = []
    return [0]


def come(window, numbers):
    """One more comes."""
    coming = numbers[0]
    minutes = numbers[1]
    people = window.people
    if coming > LATEST_COMING or minutes > LONGEST_SERVED:
        return [NOT_ALLOWED]
    # Nobody came later than the last one, so the last one stands for all.
    if people and coming < people[-1][0]:
        return [NOT_ALLOWED]
    if len(people) >= MOST_PERSONS:
        return [FULL]
    people.append((coming, minutes))
    return [len(people) - 1]


def drop(window, numbers):
    """It's as if one hadn't come."""
    person = numbers[0]
    if window.lacks(person):
        return [NO_PERSON]
    dropped = window.people.pop(person)
    return [dropped[1]]


def wait(window, numbers):
    """How many minutes one waits."""
    person = numbers[0]
    if window.lacks(person):
        return [NO_PERSON]
    return [waits_of(window.stays())[person]]


def times(window, numbers):
    """When one comes, begins, is done."""
    person = numbers[0]
    if window.lacks(person):
        return [NO_PERSON]
    return list(window.stays()[person])


def since(window, numbers):
    """Since whom the window wasn't free for one."""
    person = numbers[0]
    if window.lacks(person):
        return [NO_PERSON]
    return [since_whom(window.stays(), person)]


def wait_together(window, numbers):
    """How many minutes all wait, and how many persons wait at all."""
    waits = waits_of(window.stays())
    return [sum(waits), len([minutes for minutes in waits if minutes > 0])]


def longest(window, numbers):
    """The longest wait, and the first who waits so long."""
    if not window.people:
        return [NOBODY]
    waits = waits_of(window.stays())
    greatest = max(waits)
    return [greatest, waits.index(greatest)]


def over(window, numbers):
    """When the last one is done."""
    return [over_at(window.stays())]


def work(window, numbers):
    """What's left at a minute."""
    minute = numbers[0]
    if minute > LATEST_ASKED:
        return [NOT_ALLOWED]
    return [left_at(window.stays(), minute)]


def present(window, numbers):
    """How many are there at a minute, and who."""
    minute = numbers[0]
    if minute > LATEST_ASKED:
        return [NOT_ALLOWED]
    there = present_at(window.stays(), minute)
    return [len(there)] + there


def at(window, numbers):
    """Who is at the window in a minute, and for how many minutes yet."""
    minute = numbers[0]
    if minute > LATEST_ASKED:
        return [NOT_ALLOWED]
    stays = window.stays()
    served = served_at(stays, minute)
    if not served:
        return [IDLE]
    person = served[0]
    return [person, stays[person][2] - minute]


def idle(window, numbers):
    """In how many of the first minutes the window is idle."""
    minutes = numbers[0]
    if minutes > LATEST_ASKED:
        return [NOT_ALLOWED]
    return [idle_before(window.stays(), minutes)]


def spans(window, numbers):
    """How many spans there are, and of each its first minute and the one behind its last."""
    found = spans_of(window.stays())
    answer = [len(found)]
    for span in found:
        answer.extend(span)
    return answer


def order(window, numbers):
    """How many minutes all wait in another order, and when the last one is done."""
    if not is_order_of_all(window.people, numbers):
        return [NOT_ALLOWED]
    return waits_and_over(stays_in_order(window.people, numbers))


def left(window, numbers):
    """What's left at a minute, served in another order."""
    minute = numbers[0]
    wanted = numbers[1:]
    if not is_order_of_all(window.people, wanted) or minute > LATEST_ASKED:
        return [NOT_ALLOWED]
    return [left_at(stays_in_order(window.people, wanted), minute)]


def without(window, numbers):
    """How many minutes all others wait if one stays away, and when the last one is done."""
    person = numbers[0]
    if window.lacks(person):
        return [NO_PERSON]
    others = window.people[:person] + window.people[person + 1:]
    return waits_and_over(stays_of(others))


def longer(window, numbers):
    """How many minutes all wait if one is served longer, and when the last one is done."""
    person = numbers[0]
    more = numbers[1]
    if window.lacks(person):
        return [NO_PERSON]
    if more > MOST_LONGER:
        return [NOT_ALLOWED]
    people = list(window.people)
    people[person] = (people[person][0], people[person][1] + more)
    return waits_and_over(stays_of(people))


def room(window, numbers):
    """By how many minutes longer one may be served so that nobody waits longer."""
    person = numbers[0]
    if window.lacks(person):
        return [NO_PERSON]
    # All come by minute 300: whoever has one behind it makes that one wait, long before 1,000 minutes more.
    if window.lacks(person + 1):
        return [NO_LIMIT]
    # Who is behind the next one waits longer only if the next one does.
    return [gap_behind(window.stays(), person)]


def most(window, numbers):
    """How many are there at once, at most, and the first minute in which so many are."""
    stays = window.stays()
    minute = fullest_minute(stays)
    return [len(present_at(stays, minute)), minute]


def state(window, numbers):
    """How many persons there are, and their minutes, together."""
    minutes = [person[1] for person in window.people]
    return [len(minutes), sum(minutes)]


# At a call's number: what answers it, how many numbers it has, and how many lists behind them (one at most).
CALLS = (
    (start, 0, 0),
    (come, 2, 0),
    (drop, 1, 0),
    (wait, 1, 0),
    (times, 1, 0),
    (since, 1, 0),
    (wait_together, 0, 0),
    (longest, 0, 0),
    (over, 0, 0),
    (work, 1, 0),
    (present, 1, 0),
    (at, 1, 0),
    (idle, 1, 0),
    (spans, 0, 0),
    (order, 0, 1),
    (left, 1, 1),
    (without, 1, 0),
    (longer, 2, 0),
    (room, 1, 0),
    (most, 0, 0),
    (state, 0, 0),
)


def numbers_at(calls, place):
    """The numbers of the call that stands at a place, and those of its list, without their count."""
    call = calls[place]
    behind = place + 1 + CALLS[call][1]
    numbers = calls[place + 1:behind]
    if CALLS[call][2] == 0:
        return numbers
    first = behind + 1
    return numbers + calls[first:first + calls[behind]]


def answer_of(window, call, numbers):
    """What one call answers."""
    if call != START and not window.started:
        return [NOT_STARTED]
    return CALLS[call][0](window, numbers)


def answers(calls):
    """What the calls answer, one behind another on a new window: of each how many numbers, then these."""
    window = Window()
    told = []
    place = 0
    while place < len(calls):
        call = calls[place]
        numbers = numbers_at(calls, place)
        answer = answer_of(window, call, numbers)
        told.append(len(answer))
        told.extend(answer)
        # A list's count is passed over too, whatever the call answered.
        place = place + 1 + len(numbers) + CALLS[call][2]
    return told
