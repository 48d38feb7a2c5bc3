"""How persons are served at one window, in the order in which they come.

People are a list of (coming, minutes), in the order in which they come. A stay is one
person's (coming, begin, done): served in the minutes from begin up to, but not in, done.
"""


def stays_of(people):
    """The stay of each."""
    stays = []
    free = 0
    for coming, minutes in people:
        begin = max(coming, free)
        free = begin + minutes
        stays.append((coming, begin, free))
    return stays


def waits_of(people):
    """How many minutes each waits."""
    return [begin - coming for coming, begin, done in stays_of(people)]


def since_whom(people, person):
    """The last one, no later than this person, who didn't wait."""
    waits = waits_of(people)
    # The first of all never waits, so the walk ends at 0 at the latest.
    while waits[person] > 0:
        person = person - 1
    return person


def over_at(people):
    """When the last one is done; 0 if there's nobody."""
    if not people:
        return 0
    return stays_of(people)[-1][2]


def left_at(people, minute):
    """What's left at a minute of the minutes of all who have come by then."""
    left = 0
    for coming, begin, done in stays_of(people):
        if coming <= minute < done:
            # Who hasn't begun by then has all of its minutes left, not the wait too.
            left = left + done - max(begin, minute)
    return left


def present_at(people, minute):
    """Who has come by a minute and isn't done by then, rising."""
    stays = stays_of(people)
    return [person for person, stay in enumerate(stays) if stay[0] <= minute < stay[2]]
