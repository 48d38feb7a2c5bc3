"""Long lines in which all calls stand mixed, wrong ones among them, against the model."""

import random
import unittest

from onewindow.persons import answers
from tests.lines import (
    AT, COME, COUNTS, DROP, GREATEST, IDLE, LEFT, LONGER, ORDER, PRESENT, ROOM, SINCE, START, TIMES, WAIT, WITHOUT,
    WITH_LIST, WORK, ask, written,
)
from tests.model import Model

OF_PERSON = (DROP, WAIT, TIMES, SINCE, WITHOUT, LONGER, ROOM)
OF_MINUTE = (WORK, PRESENT, AT, IDLE, LEFT)


def some_order(chance, count):
    """Mostly an order of all, else one that isn't quite."""
    order = chance.sample(range(count), count)
    shape = chance.randint(0, 9)
    if shape == 0:
        return order[1:]
    if shape == 1:
        return order + [chance.choice((0, count, GREATEST))]
    if shape == 2 and count > 1:
        return order[1:] + [order[1]]
    if shape == 3 and count > 0:
        return order[1:] + [chance.choice((count, GREATEST))]
    if shape == 4:
        return [chance.randint(0, 20) for place in range(60)]
    return order


def some_call(chance, people, step):
    """Any call, with numbers that mostly fit who has come."""
    if chance.random() < 0.25:
        latest = max([coming for coming, minutes in people], default=0)
        coming = chance.choice([max(0, latest + chance.randint(-1, step))] * 9 + [chance.choice((300, 301, GREATEST))])
        return (COME, coming, chance.choice([chance.randint(0, 60), 0, 1, 5, chance.choice((60, 61, GREATEST))]))
    call = chance.choice([call for call in COUNTS if call not in (START, COME)] + [START] * (chance.random() < 0.2))
    numbers = []
    if call in OF_PERSON:
        numbers.append(chance.choice([chance.randint(0, max(0, len(people) - 1))] * 8 + [len(people), GREATEST]))
    if call in OF_MINUTE:
        numbers.append(chance.choice([chance.randint(0, 60), chance.randint(0, 400), chance.randint(0, 2001),
                                      chance.choice((2000, 2001, GREATEST))]))
    if call == LONGER:
        numbers.append(chance.choice([chance.randint(0, 60), 0, 60, 61, GREATEST]))
    if call in WITH_LIST:
        numbers.append(some_order(chance, len(people)))
    return (call, *numbers)


def some_line(chance):
    """A line of calls, and what the model answers to each."""
    model = Model()
    calls, told = [], []
    step = chance.choice((0, 1, 3, 20, 60))
    late_start = chance.choice((0, 0, 0, 30))
    for number in range(chance.choice((1, 20, 200, 200))):
        call = START if number == late_start else some_call(chance, model.people or [], step)
        if number < late_start and call == (START,):
            call = (COME, 1, 1)
        calls.append(call)
        told.append(model.answer(call))
    return calls, told


class Mixed(unittest.TestCase):
    def test_all_calls_mixed(self):
        chance = random.Random(21)
        seen = set()
        for number in range(250):
            calls, told = some_line(chance)
            with self.subTest(calls=calls):
                self.assertEqual(ask(*calls), told)
            for call, answer in zip(calls, told):
                seen.add((call if isinstance(call, int) else call[0], min(answer[0], 0)))
        due = {(call, 0) for call in COUNTS} | {(call, -11) for call in COUNTS if call != START}
        due |= {(call, -2) for call in OF_PERSON} | {(call, -22) for call in OF_MINUTE}
        due |= {(COME, -22), (COME, -28), (AT, -33), (ORDER, -22), (LONGER, -22), (ROOM, -33)}
        self.assertEqual(due - seen, set())

    def test_the_same_line_twice(self):
        chance = random.Random(22)
        for number in range(20):
            calls = written(some_line(chance)[0])
            before = list(calls)
            first = answers(calls)
            self.assertEqual(calls, before)
            self.assertEqual(answers(calls), first)
            self.assertEqual(calls, before)


if __name__ == "__main__":
    unittest.main()
