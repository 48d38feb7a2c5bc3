"""Lines of calls, as the tests write them, and their answers, call by call."""

from onewindow.persons import answers

(START, COME, DROP, WAIT, TIMES, SINCE, SUM, LONGEST, OVER, WORK, PRESENT,
 AT, IDLE, SPANS, ORDER, LEFT, WITHOUT, LONGER, ROOM, MOST, STATE) = range(21)

# How many numbers each call has, a list aside.
COUNTS = {
    START: 0, COME: 2, DROP: 1, WAIT: 1, TIMES: 1, SINCE: 1, SUM: 0, LONGEST: 0, OVER: 0, WORK: 1, PRESENT: 1,
    AT: 1, IDLE: 1, SPANS: 0, ORDER: 0, LEFT: 1, WITHOUT: 1, LONGER: 2, ROOM: 1, MOST: 0, STATE: 0,
}
WITH_LIST = (ORDER, LEFT)

GREATEST = 4294967295


def written(calls):
    """The one list for calls that are written as tuples, or as a bare number if they have no numbers.

    A list within a tuple is written with how many numbers it has before it.
    """
    flat = []
    for call in calls:
        for part in (call,) if isinstance(call, int) else call:
            flat.extend([len(part), *part] if isinstance(part, list) else [part])
    return flat


def told_apart(told):
    """The answers one by one, without their counts; fails if the counts don't fit."""
    apart = []
    place = 0
    while place < len(told):
        behind = place + 1 + told[place]
        if behind > len(told) or told[place] < 1:
            raise AssertionError(f"count {told[place]} at {place} doesn't fit {told}")
        apart.append(told[place + 1:behind])
        place = behind
    return apart


def ask(*calls):
    """What each of these calls answers, on one new window."""
    apart = told_apart(answers(written(calls)))
    if len(apart) != len(calls):
        raise AssertionError(f"{len(calls)} calls, {len(apart)} answers")
    return apart


def ask_with(people, *calls):
    """What each of these calls answers once the people have come."""
    before = [START] + [(COME, coming, minutes) for coming, minutes in people]
    return ask(*before, *calls)[len(before):]
