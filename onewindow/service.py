"""How persons are served at one window, in the order in which they come or in another.

People are a list of (coming, minutes), in the order in which they come. A stay is one
person's (coming, begin, done): served in the minutes from begin up to, but not in, done.
Stays are a list of these, at each person's number, in whatever order they are served.
"""


def stays_of(people):
    """The stay of each, served in the order in which they come."""
    stays = []
    free = 0
    for coming, minutes in people:
        begin = max(coming, free)
        free = begin + minutes
        stays.append((coming, begin, free))
    return stays


def stays_in_order(people, order):
    """The stay of each, served in another order."""
    stays = {}
    waiting = list(order)
    minute = 0
    while waiting:
        come = [person for person in waiting if people[person][0] <= minute]
        if come:
            person = come[0]
            done = minute + people[person][1]
            stays[person] = (people[person][0], minute, done)
            waiting.remove(person)
            # Who is served no minutes leaves the window free in the same minute.
            minute = done
        else:
            minute = minute + 1
    return [stays[person] for person in range(len(people))]


def is_order_of_all(people, order):
    """Whether each person stands in it, once."""
    return sorted(order) == list(range(len(people)))


def waits_of(stays):
    """How many minutes each waits."""
    return [begin - coming for coming, begin, done in stays]


def since_whom(stays, person):
    """The last one, no later than this person, who didn't wait."""
    waits = waits_of(stays)
    # The first of all never waits, so the walk ends at 0 at the latest.
    while waits[person] > 0:
        person = person - 1
    return person


def over_at(stays):
    """When the last one is done; 0 if there's nobody."""
    return max([done for coming, begin, done in stays], default=0)


def left_at(stays, minute):
    """What's left at a minute of the minutes of all who have come by then."""
    left = 0
    for coming, begin, done in stays:
        if coming <= minute < done:
            # Who hasn't begun by then has all of its minutes left, not the wait too.
            left = left + done - max(begin, minute)
    return left


def present_at(stays, minute):
    """Who has come by a minute and isn't done by then, rising."""
    return [person for person, stay in enumerate(stays) if stay[0] <= minute < stay[2]]


def served_at(stays, minute):
    """Who is at the window in a minute: one at most, in a list."""
    return [person for person, stay in enumerate(stays) if stay[1] <= minute < stay[2]]


def idle_before(stays, minute):
    """In how many of the minutes before this one the window is idle."""
    served = [min(done, minute) - min(begin, minute) for coming, begin, done in stays]
    return minute - sum(served)


def spans_of(stays):
    """Of each span its first minute, and the one behind its last; the stays rise."""
    spans = []
    for coming, begin, done in stays:
        if begin == done:
            # Who is served no minutes is never at the window, so it makes no span.
            continue
        if spans and spans[-1][1] == begin:
            spans[-1] = (spans[-1][0], done)
        else:
            spans.append((begin, done))
    return spans


def gap_behind(stays, person):
    """How many minutes lie between when one is done and when the next begins."""
    return stays[person + 1][1] - stays[person][2]


def fullest_minute(stays):
    """The first minute in which as many are there as ever are."""
    # More are there only as one comes; if nobody ever is, it's the first minute of all.
    minutes = [0] + [coming for coming, begin, done in stays]
    counts = [len(present_at(stays, minute)) for minute in minutes]
    return minutes[counts.index(max(counts))]
