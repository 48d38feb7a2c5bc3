"""Point 1: start, come, drop."""

import unittest

from tests.lines import (
    AT, COME, DROP, IDLE, LEFT, LONGER, LONGEST, MOST, ORDER, OVER, PRESENT, ROOM, SINCE, SPANS, START, STATE, SUM, TIMES,
    WAIT, WITHOUT, WORK, ask, ask_with,
)


class Start(unittest.TestCase):
    def test_nobody_is_there(self):
        self.assertEqual(ask(START, SUM, LONGEST, OVER, (WAIT, 0)), [[0], [0, 0], [-6], [0], [-2]])

    def test_a_second_start_forgets_who_came(self):
        self.assertEqual(
            ask(START, (COME, 300, 60), (COME, 300, 60), START, SUM, OVER, (WORK, 300), (PRESENT, 300), (TIMES, 0)),
            [[0], [0], [1], [0], [0, 0], [0], [0], [0], [-2]])

    def test_numbers_and_minutes_begin_anew_after_a_second_start(self):
        self.assertEqual(ask(START, (COME, 300, 60), START, (COME, 0, 1), (TIMES, 0)), [[0], [0], [0], [0], [0, 0, 1]])

    def test_a_full_window_takes_persons_again_after_a_second_start(self):
        told = ask(START, *[(COME, 9, 1)] * 21, START, (COME, 9, 1))
        self.assertEqual(told[21:], [[-28], [0], [0]])


class Come(unittest.TestCase):
    def test_answers_the_persons_number(self):
        self.assertEqual(ask_with([], (COME, 0, 5), (COME, 0, 5), (COME, 7, 0), (COME, 300, 1)), [[0], [1], [2], [3]])

    def test_minute_300_and_301(self):
        self.assertEqual(ask_with([], (COME, 301, 5), (COME, 300, 5), (COME, 301, 5), (TIMES, 0)),
                         [[-22], [0], [-22], [300, 300, 305]])

    def test_60_and_61_minutes(self):
        self.assertEqual(ask_with([], (COME, 4, 61), (COME, 4, 60), (COME, 4, 61), (TIMES, 0)),
                         [[-22], [0], [-22], [4, 4, 64]])

    def test_minute_0_and_no_minutes(self):
        self.assertEqual(ask_with([], (COME, 0, 0), (TIMES, 0)), [[0], [0, 0, 0]])

    def test_a_minute_before_that_of_one_who_came(self):
        self.assertEqual(ask_with([(10, 5)], (COME, 9, 5), (COME, 10, 5), (COME, 11, 5), (COME, 10, 5), OVER),
                         [[-22], [1], [2], [-22], [25]])

    def test_before_the_last_one_but_not_before_the_first(self):
        self.assertEqual(ask_with([(10, 5), (20, 5)], (COME, 15, 5), (COME, 19, 5), (COME, 20, 5)), [[-22], [-22], [2]])

    def test_who_was_refused_did_not_come(self):
        self.assertEqual(ask_with([(10, 5)], (COME, 300, 61), (COME, 9, 5), (COME, 10, 5), SUM, OVER),
                         [[-22], [-22], [1], [5, 1], [20]])

    def test_the_minute_of_one_who_was_dropped_does_not_count(self):
        self.assertEqual(ask_with([(10, 5), (20, 5)], (DROP, 1), (COME, 9, 5), (COME, 10, 5)), [[5], [-22], [1]])
        self.assertEqual(ask_with([(10, 5)], (DROP, 0), (COME, 0, 5)), [[5], [0]])

    def test_the_minute_of_the_last_one_counts_after_another_is_dropped(self):
        self.assertEqual(ask_with([(10, 5), (20, 5)], (DROP, 0), (COME, 19, 5), (COME, 20, 5)), [[5], [-22], [1]])

    def test_the_20th_and_the_21st(self):
        told = ask_with([(0, 1)] * 19, (COME, 0, 1), (COME, 0, 1), (COME, 300, 60), OVER)
        self.assertEqual(told, [[19], [-28], [-28], [20]])

    def test_of_two_refusals_minus_22_comes_first(self):
        self.assertEqual(ask_with([(5, 1)] * 20, (COME, 301, 1), (COME, 5, 61), (COME, 4, 1), (COME, 5, 1)),
                         [[-22], [-22], [-22], [-28]])

    def test_there_is_room_again_after_a_drop(self):
        self.assertEqual(ask_with([(5, 1)] * 20, (COME, 5, 2), (DROP, 3), (COME, 5, 2), (COME, 5, 2)),
                         [[-28], [1], [19], [-28]])


class Drop(unittest.TestCase):
    def test_answers_its_minutes(self):
        self.assertEqual(ask_with([(1, 30), (2, 0), (3, 60)], (DROP, 1), (DROP, 1), (DROP, 0)), [[0], [60], [30]])

    def test_no_such_person(self):
        self.assertEqual(ask_with([], (DROP, 0)), [[-2]])
        self.assertEqual(ask_with([(1, 4), (1, 6)], (DROP, 2), (DROP, 1), (DROP, 1), (DROP, 0), (DROP, 0)),
                         [[-2], [6], [-2], [4], [-2]])

    def test_those_behind_have_one_number_less(self):
        self.assertEqual(ask_with([(1, 9), (2, 8), (3, 7)], (DROP, 1), (TIMES, 0), (TIMES, 1), (TIMES, 2)),
                         [[8], [1, 1, 10], [3, 10, 17], [-2]])

    def test_it_is_as_if_it_had_not_come(self):
        people = [(0, 20), (5, 10), (5, 0), (6, 60), (90, 1), (300, 60)]
        questions = [SUM, LONGEST, OVER, SPANS, MOST, STATE, (ORDER, [4, 1, 0, 3, 2]), (LEFT, 40, [4, 1, 0, 3, 2])]
        questions += [(call, person) for call in (WAIT, TIMES, SINCE, WITHOUT, ROOM) for person in range(6)]
        questions += [(LONGER, person, 20) for person in range(6)]
        questions += [(call, minute) for call in (WORK, PRESENT, AT, IDLE) for minute in range(0, 400, 15)]
        for person in range(len(people)):
            with self.subTest(person=person):
                others = people[:person] + people[person + 1:]
                self.assertEqual(ask_with(people, (DROP, person), *questions)[1:], ask_with(others, *questions))


if __name__ == "__main__":
    unittest.main()
