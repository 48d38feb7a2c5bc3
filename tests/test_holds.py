"""What holds of any line, on many lines: each answer against the words, told in another way."""

import random
import unittest

from tests.lines import (
    AT, DROP, IDLE, LEFT, LONGER, LONGEST, MOST, ORDER, OVER, PRESENT, ROOM, SINCE, SPANS, STATE, SUM, TIMES, WAIT,
    WITHOUT, WORK, ask_with,
)
from tests.model import Model, made_longer, turned_round, walk


def many_lines():
    """People of many shapes: none to twenty, close together or far apart, many or few served no minutes."""
    chance = random.Random(20)
    lines = [[], [(0, 0)] * 20, [(300, 60)] * 20, [(15 * k, 15) for k in range(20)], [(15 * k, 16) for k in range(20)]]
    for latest in (0, 3, 20, 60, 300):
        for longest in (0, 1, 3, 15, 60):
            for count in (1, 2, 5, 12, 20):
                comings = sorted(chance.randint(0, latest) for person in range(count))
                lines.append([(coming, chance.randint(0, longest)) for coming in comings])
    return lines


LINES = many_lines()


def some_orders(people):
    """Rising, falling, the shortest first, the longest first, and two shuffled ones."""
    chance = random.Random(len(people))
    persons = list(range(len(people)))
    by_minutes = sorted(persons, key=lambda k: people[k][1])
    return [persons, persons[::-1], by_minutes, by_minutes[::-1],
            chance.sample(persons, len(persons)), chance.sample(persons, len(persons))]


def ask_in_parts(people, calls):
    """What the calls answer once the people have come, so many calls in a line as it may hold."""
    told = []
    for first in range(0, len(calls), 179):
        told += ask_with(people, *calls[first:first + 179])
    return told


class AgainstTheModel(unittest.TestCase):
    def check(self, calls_of):
        for people in LINES:
            model = Model()
            model.people = people
            calls = calls_of(people)
            with self.subTest(people=people):
                self.assertEqual(ask_in_parts(people, calls), [model.answer(call) for call in calls])

    def test_of_each_person(self):
        self.check(lambda people: [(call, k) for call in (WAIT, TIMES, SINCE, WITHOUT, ROOM) for k in range(len(people))])

    def test_of_each_person_longer(self):
        self.check(lambda people: [(LONGER, k, more) for more in (0, 1, 17, 60) for k in range(len(people))])

    def test_of_all(self):
        self.check(lambda people: [SUM, LONGEST, OVER, SPANS, MOST, STATE])

    def test_of_each_minute(self):
        self.check(lambda people: [(call, minute) for call in (WORK, PRESENT, AT, IDLE) for minute in range(1502)])

    def test_of_orders(self):
        self.check(lambda people: [(ORDER, order) for order in some_orders(people)])


class WhatHolds(unittest.TestCase):
    def test_a_the_wait_turned_round(self):
        for people in LINES:
            with self.subTest(people=people):
                told = ask_with(people, *[(WAIT, k) for k in range(len(people))])
                self.assertEqual(told, [[minutes] for minutes in turned_round(people)])

    def test_b_as_much_is_left_in_whatever_order(self):
        for people in LINES:
            over = ask_with(people, OVER)[0][0]
            minutes = sorted({minute for coming, begin, done in ask_with(people, *[(TIMES, k) for k in range(len(people))])
                              for minute in (coming - 1, coming, begin, done - 1, done) if minute >= 0} | {0, over, 2000})
            work = ask_in_parts(people, [(WORK, minute) for minute in minutes])
            for order in some_orders(people):
                with self.subTest(people=people, order=order):
                    self.assertEqual(ask_in_parts(people, [(LEFT, minute, order) for minute in minutes]), work)
                    self.assertEqual(ask_with(people, (ORDER, order))[0][1], over)

    def test_b_at_every_minute(self):
        for people in LINES[::9]:
            work = ask_in_parts(people, [(WORK, minute) for minute in range(2001)])
            for order in some_orders(people)[1::2]:
                with self.subTest(people=people, order=order):
                    self.assertEqual(ask_in_parts(people, [(LEFT, minute, order) for minute in range(2001)]), work)
                    self.assertEqual([[left] for left in walk(people, order).left], work)

    def test_the_order_in_which_they_come_is_as_if_none_were_told(self):
        for people in LINES:
            with self.subTest(people=people):
                told = ask_with(people, (ORDER, list(range(len(people)))), SUM, OVER)
                self.assertEqual(told[0], [told[1][0], told[2][0]])

    def test_c_who_stays_away_makes_nobody_later(self):
        for people in LINES:
            with self.subTest(people=people):
                before = ask_with(people, *[(TIMES, k) for k in range(len(people))])
                for away in range(len(people)):
                    told = ask_with(people, (WITHOUT, away), (DROP, away), SUM, OVER,
                                    *[(TIMES, k) for k in range(len(people) - 1)])
                    self.assertEqual(told[0], [told[2][0], told[3][0]])
                    self.assertEqual(told[1], [people[away][1]])
                    for now, once in zip(told[4:], before[:away] + before[away + 1:], strict=True):
                        self.assertLessEqual(now[1], once[1])
                        self.assertLessEqual(now[2], once[2])

    def test_c_so_much_longer_nobody_waits_longer_and_a_minute_more_somebody_does(self):
        for people in LINES:
            with self.subTest(people=people):
                before = turned_round(people)
                rooms = ask_with(people, *[(ROOM, k) for k in range(len(people))])
                for k, room in enumerate(rooms):
                    if k == len(people) - 1:
                        self.assertEqual(room, [-33])
                        self.assertEqual(turned_round(made_longer(people, k, 1000)), before)
                        continue
                    self.assertIn(room[0], range(301))
                    self.assertEqual(turned_round(made_longer(people, k, room[0])), before)
                    self.assertTrue(any(now > once for now, once in
                                        zip(turned_round(made_longer(people, k, room[0] + 1)), before)))

    def test_c_told_by_longer(self):
        tried = 0
        for people in LINES:
            for k in range(len(people) - 1):
                room = ask_with(people, (ROOM, k))[0][0]
                if room < 60:
                    tried += 1
                    told = ask_with(people, SUM, (LONGER, k, room), (LONGER, k, room + 1))
                    with self.subTest(people=people, k=k):
                        self.assertEqual(told[1][0], told[0][0])
                        self.assertGreater(told[2][0], told[0][0])
        self.assertGreater(tried, 100)

    def test_d_all_stays_are_all_who_are_there(self):
        for people in LINES:
            with self.subTest(people=people):
                times = ask_with(people, *[(TIMES, k) for k in range(len(people))])
                stays = sum(done - coming for coming, begin, done in times)
                told = ask_in_parts(people, [(PRESENT, minute) for minute in range(1502)])
                self.assertEqual(sum(there[0] for there in told), stays)

    def test_spans_hold_all_minutes_that_are_not_idle(self):
        for people in LINES:
            with self.subTest(people=people):
                told = ask_with(people, SPANS, STATE, (IDLE, 2000))
                firsts, behind = told[0][1::2], told[0][2::2]
                self.assertEqual(len(firsts), told[0][0])
                self.assertEqual(len(behind), told[0][0])
                self.assertEqual(sum(behind) - sum(firsts), told[1][1])
                self.assertEqual(told[2], [2000 - told[1][1]])
                self.assertTrue(all(end < first for end, first in zip(behind, firsts[1:])))


if __name__ == "__main__":
    unittest.main()
