"""A window that answers each call by the words, walked from minute to minute: slow, and plain to check."""

from tests.lines import (
    AT, COME, DROP, IDLE, LEFT, LONGER, LONGEST, MOST, ORDER, OVER, PRESENT, ROOM, SINCE, SPANS, START, STATE, SUM, TIMES,
    WAIT, WITHOUT, WORK,
)

# Nobody is there after 300 + 20 * 60 + 60, and minutes above 2,000 aren't asked for.
MINUTES = 2001


class Walk:
    """What is seen at the window from minute to minute, if all are served in an order."""

    def __init__(self, people, order):
        self.begun, self.done = {}, {}
        # At each minute: who's at the window (None: it's idle), who's there, and what's left.
        self.at, self.there, self.left = [], [], []
        self.yet = [minutes for coming, minutes in people]
        served = None
        minute = 0
        while len(self.done) < len(people):
            there = [k for k in order if people[k][0] <= minute and k not in self.done]
            served = self.step(there, served, minute)
            self.at.append(served)
            self.there.append(sorted(there))
            self.left.append(sum(self.yet[k] for k in there))
            if served is not None:
                self.yet[served] -= 1
            minute += 1
        # Once all are done nobody is there any more.
        self.at += [None] * (MINUTES - minute)
        self.there += [[]] * (MINUTES - minute)
        self.left += [0] * (MINUTES - minute)
        self.waits = [self.begun[k] - people[k][0] for k in range(len(people))]
        self.over = max(self.done.values(), default=0)

    def step(self, there, served, minute):
        """Who's at the window in this minute; takes those out who are done."""
        while True:
            if served is None:
                if not there:
                    return None
                served = there[0]
                self.begun[served] = minute
            if self.yet[served] > 0:
                return served
            self.done[served] = minute
            there.remove(served)
            served = None


WALKS = {}


def walk(people, order=None):
    """The walk of these people, kept since the same is asked for over and over."""
    key = (tuple(people), tuple(range(len(people)) if order is None else order))
    if key not in WALKS:
        if len(WALKS) > 300:
            WALKS.clear()
        WALKS[key] = Walk(*key)
    return WALKS[key]


def turned_round(people):
    """How long each waits, by point a of what holds."""
    return [max(sum(minutes for coming, minutes in people[j:k]) - (people[k][0] - people[j][0]) for j in range(k + 1))
            for k in range(len(people))]


def made_longer(people, person, more):
    return [(coming, minutes + more * (k == person)) for k, (coming, minutes) in enumerate(people)]


def seen_spans(seen):
    busy = [person is not None for person in seen.at]
    firsts = [minute for minute in range(MINUTES) if busy[minute] and not (minute > 0 and busy[minute - 1])]
    behind = [minute for minute in range(1, MINUTES) if busy[minute - 1] and not busy[minute]]
    return list(zip(firsts, behind, strict=True))


def room_for(people, person):
    """By how many minutes one may be served longer, or -33."""
    before = turned_round(people)

    def nobody_waits_longer(more):
        return all(now <= once for now, once in zip(turned_round(made_longer(people, person, more)), before))

    if nobody_waits_longer(1000):
        return -33
    return next(more for more in range(1000) if not nobody_waits_longer(more + 1))


class Model:
    """Who has come, and what each call answers."""

    def __init__(self):
        self.people = None

    def answer(self, call):
        call = (call,) if isinstance(call, int) else call
        if call[0] == START:
            self.people = []
            return [0]
        if self.people is None:
            return [-11]
        if call[0] in (DROP, WAIT, TIMES, SINCE, WITHOUT, LONGER, ROOM):
            if call[1] not in range(len(self.people)):
                return [-2]
            return self.of_person(*call)
        if call[0] in (WORK, PRESENT, AT, IDLE):
            return [-22] if call[1] > 2000 else self.of_minute(*call)
        if call[0] in (ORDER, LEFT):
            return self.of_order(*call)
        return self.come(*call[1:]) if call[0] == COME else self.of_all(call[0])

    def come(self, coming, minutes):
        if coming > 300 or any(coming < other[0] for other in self.people) or minutes > 60:
            return [-22]
        if len(self.people) == 20:
            return [-28]
        self.people = self.people + [(coming, minutes)]
        return [len(self.people) - 1]

    def of_person(self, call, person, more=0):
        seen = walk(self.people)
        others = self.people[:person] + self.people[person + 1:]
        if call == DROP:
            minutes = self.people[person][1]
            self.people = others
            return [minutes]
        if call == WAIT:
            return [seen.waits[person]]
        if call == TIMES:
            return [self.people[person][0], seen.begun[person], seen.done[person]]
        if call == SINCE:
            return [max(k for k in range(person + 1) if seen.waits[k] == 0)]
        if call == ROOM:
            return [room_for(self.people, person)]
        if more > 60:
            return [-22]
        changed = walk(others if call == WITHOUT else made_longer(self.people, person, more))
        return [sum(changed.waits), changed.over]

    def of_minute(self, call, minute):
        seen = walk(self.people)
        if call == WORK:
            return [seen.left[minute]]
        if call == PRESENT:
            return [len(seen.there[minute]), *seen.there[minute]]
        if call == IDLE:
            return [seen.at[:minute].count(None)]
        person = seen.at[minute]
        return [-33] if person is None else [person, seen.at[minute:].count(person)]

    def of_order(self, call, *numbers):
        order = numbers[-1]
        if len(order) != len(self.people) or any(k not in order for k in range(len(self.people))):
            return [-22]
        if call == LEFT and numbers[0] > 2000:
            return [-22]
        seen = walk(self.people, order)
        return [seen.left[numbers[0]]] if call == LEFT else [sum(seen.waits), seen.over]

    def of_all(self, call):
        seen = walk(self.people)
        if call == SUM:
            return [sum(seen.waits), sum(1 for minutes in seen.waits if minutes > 0)]
        if call == LONGEST:
            return [max(seen.waits), seen.waits.index(max(seen.waits))] if self.people else [-6]
        if call == OVER:
            return [seen.over]
        if call == SPANS:
            spans = seen_spans(seen)
            return [len(spans)] + [minute for span in spans for minute in span]
        if call == MOST:
            counts = [len(there) for there in seen.there]
            return [max(counts), counts.index(max(counts))]
        if call == STATE:
            return [len(self.people), sum(minutes for coming, minutes in self.people)]
        raise AssertionError(f"no such call: {call}")
