"""What holds of any line, on many lines: each answer against the words, told in another way."""

import random
import unittest

from tests.lines import (
    COME, DROP, LONGEST, OVER, PRESENT, SINCE, START, SUM, TIMES, WAIT, WORK, ask, ask_with,
)


def many_lines():
    """People of many shapes: none to twenty, close together or far apart, many or few served no minutes."""
    chance = random.Random(20)
    lines = [[], [(0, 0)] * 20, [(300, 60)] * 20, [(15 * k, 15) for k in range(20)], [(15 * k, 16) for k in range(20)]]
    for latest in (0, 3, 20, 60, 300):
        for longest in (0, 1, 3, 15, 60):
            for count in (1, 2, 5, 12, 20):
                comings = sorted(chance.randint(0, latest) for person in range(count))
                lines.append([(coming, chance.randint(0, longest)) for coming in comings])
    return lines


LINES = many_lines()


def seen_minute_by_minute(people):
    """Walks from minute to minute: when each begins and is done, and at each minute who's there and what's left."""
    begun, done, there, left = {}, {}, [], []
    yet = [minutes for coming, minutes in people]
    for minute in range(1502):
        queue = [k for k in range(len(people)) if people[k][0] <= minute and k not in done]
        # Who has none of its minutes left goes at once, and the one behind steps up.
        while queue:
            begun.setdefault(queue[0], minute)
            if yet[queue[0]] > 0:
                break
            done[queue.pop(0)] = minute
        there.append(queue)
        left.append(sum(yet[k] for k in queue))
        if queue:
            yet[queue[0]] -= 1
    return begun, done, there, left


class MinuteByMinute(unittest.TestCase):
    def test_times_wait_since_and_all_together(self):
        for people in LINES:
            begun, done, there, left = seen_minute_by_minute(people)
            waits = [begun[k] - people[k][0] for k in range(len(people))]
            with self.subTest(people=people):
                for k in range(len(people)):
                    since = max(j for j in range(k + 1) if waits[j] == 0)
                    self.assertEqual(ask_with(people, (TIMES, k), (WAIT, k), (SINCE, k)),
                                     [[people[k][0], begun[k], done[k]], [waits[k]], [since]])
                most = [max(waits), waits.index(max(waits))] if waits else [-6]
                self.assertEqual(ask_with(people, SUM, LONGEST, OVER), [
                    [sum(waits), sum(1 for minutes in waits if minutes)], most, [max(done.values(), default=0)]])

    def test_work_and_present(self):
        for people in LINES:
            begun, done, there, left = seen_minute_by_minute(people)
            with self.subTest(people=people):
                for first in range(0, 1502, 75):
                    asked = range(first, min(first + 75, 1502))
                    told = ask_with(people, *[(WORK, minute) for minute in asked],
                                    *[(PRESENT, minute) for minute in asked])
                    self.assertEqual(told[:len(asked)], [[left[minute]] for minute in asked])
                    self.assertEqual(told[len(asked):], [[len(there[minute])] + there[minute] for minute in asked])


class WhatHolds(unittest.TestCase):
    def test_a_the_wait_turned_round(self):
        for people in LINES:
            with self.subTest(people=people):
                for k in range(len(people)):
                    greatest = max(sum(minutes for coming, minutes in people[j:k]) - (people[k][0] - people[j][0])
                                   for j in range(k + 1))
                    self.assertEqual(ask_with(people, (WAIT, k)), [[greatest]])

    def test_c_who_stays_away_makes_nobody_later(self):
        for people in LINES:
            with self.subTest(people=people):
                before = ask_with(people, *[(TIMES, k) for k in range(len(people))])
                for away in range(len(people)):
                    told = ask_with(people, (DROP, away), *[(TIMES, k) for k in range(len(people) - 1)])
                    self.assertEqual(told[0], [people[away][1]])
                    for now, once in zip(told[1:], before[:away] + before[away + 1:], strict=True):
                        self.assertLessEqual(now[1], once[1])
                        self.assertLessEqual(now[2], once[2])

    def test_d_all_stays_are_all_who_are_there(self):
        for people in LINES:
            with self.subTest(people=people):
                times = ask_with(people, *[(TIMES, k) for k in range(len(people))])
                stays = sum(done - coming for coming, begin, done in times)
                there = 0
                for first in range(0, 1575, 175):
                    there += sum(told[0] for told in ask_with(people, *[(PRESENT, first + k) for k in range(175)]))
                self.assertEqual(there, stays)


class Kept:
    """Who is there after each call, kept by the words of point 1."""

    def __init__(self):
        self.people = []

    def answer(self, call):
        if call == START:
            self.people = []
            return [0]
        if call[0] == DROP:
            if call[1] not in range(len(self.people)):
                return [-2]
            minutes = self.people[call[1]][1]
            self.people = self.people[:call[1]] + self.people[call[1] + 1:]
            return [minutes]
        if call[1] > 300 or any(call[1] < coming for coming, minutes in self.people) or call[2] > 60:
            return [-22]
        if len(self.people) == 20:
            return [-28]
        self.people = self.people + [(call[1], call[2])]
        return [len(self.people) - 1]


class ComingAndDropping(unittest.TestCase):
    def test_long_lines_of_calls(self):
        chance = random.Random(200)
        for shape in range(120):
            calls, told, kept = [START], [[0]], Kept()
            step = chance.choice((0, 2, 20))
            for number in range(150):
                latest = max([coming for coming, minutes in kept.people], default=0)
                call = chance.choice([(COME, max(0, latest + chance.randint(-1, step)), chance.choice((0, 7, 60, 61)))] * 5
                                     + [(DROP, chance.randint(0, 20))] * 2 + [START] * (number % 50 == 49))
                calls.append(call)
                told.append(kept.answer(call))
            questions = [(TIMES, k) for k in range(21)]
            with self.subTest(calls=calls):
                self.assertEqual(ask(*calls, *questions), told + ask_with(kept.people, *questions))


if __name__ == "__main__":
    unittest.main()
