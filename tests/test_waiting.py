"""Point 2: wait, times, since, sum, longest, over."""

import unittest

from tests.lines import DROP, LONGEST, OVER, SINCE, SUM, TIMES, WAIT, ask_with

# 0 is served from 10 to 15; 1 comes as the window gets free; 2 waits for 1, and 3 for both;
# 4 comes to an idle window, is served no minutes, and keeps 5 waiting not at all.
LINE = [(10, 5), (15, 6), (17, 3), (17, 4), (40, 0), (40, 2)]


def of_all(call, people):
    return ask_with(people, *[(call, person) for person in range(len(people))])


class Wait(unittest.TestCase):
    def test_ordinary(self):
        self.assertEqual(of_all(WAIT, LINE), [[0], [0], [4], [7], [0], [0]])

    def test_who_comes_as_the_window_gets_free(self):
        self.assertEqual(of_all(WAIT, [(3, 7), (9, 1)]), [[0], [1]])
        self.assertEqual(of_all(WAIT, [(3, 7), (10, 1)]), [[0], [0]])
        self.assertEqual(of_all(WAIT, [(3, 7), (11, 1)]), [[0], [0]])

    def test_several_in_one_minute(self):
        self.assertEqual(of_all(WAIT, [(8, 2), (8, 3), (8, 4), (8, 0), (8, 1)]), [[0], [2], [5], [9], [9]])

    def test_one_served_no_minutes_waits_too(self):
        self.assertEqual(of_all(WAIT, [(0, 5), (2, 0), (2, 3), (2, 0)]), [[0], [3], [3], [6]])

    def test_the_longest_that_can_be(self):
        self.assertEqual(ask_with([(300, 60)] * 20, (WAIT, 19)), [[1140]])

    def test_no_such_person(self):
        self.assertEqual(ask_with([], (WAIT, 0)), [[-2]])
        self.assertEqual(ask_with([(0, 1), (0, 1)], (WAIT, 1), (WAIT, 2)), [[1], [-2]])


class Times(unittest.TestCase):
    def test_ordinary(self):
        self.assertEqual(of_all(TIMES, LINE), [
            [10, 10, 15], [15, 15, 21], [17, 21, 24], [17, 24, 28], [40, 40, 40], [40, 40, 42]])

    def test_one_served_no_minutes_is_done_as_it_begins(self):
        self.assertEqual(of_all(TIMES, [(0, 0), (0, 4), (1, 0)]), [[0, 0, 0], [0, 0, 4], [1, 4, 4]])

    def test_no_such_person(self):
        self.assertEqual(ask_with([], (TIMES, 0)), [[-2]])
        self.assertEqual(ask_with([(0, 1), (0, 1)], (TIMES, 1), (TIMES, 2)), [[0, 1, 2], [-2]])


class Since(unittest.TestCase):
    def test_ordinary(self):
        self.assertEqual(of_all(SINCE, LINE), [[0], [1], [1], [1], [4], [5]])

    def test_who_comes_as_the_window_gets_free_did_not_wait(self):
        self.assertEqual(of_all(SINCE, [(0, 5), (4, 2), (7, 3), (8, 1)]), [[0], [0], [2], [2]])

    def test_several_in_one_minute(self):
        self.assertEqual(of_all(SINCE, [(0, 1), (8, 2), (8, 3), (8, 4)]), [[0], [1], [1], [1]])

    def test_one_served_no_minutes(self):
        self.assertEqual(of_all(SINCE, [(8, 0), (8, 0), (8, 3), (8, 0), (11, 0), (11, 1), (11, 1)]),
                         [[0], [1], [2], [2], [4], [5], [5]])

    def test_no_such_person(self):
        self.assertEqual(ask_with([], (SINCE, 0)), [[-2]])
        self.assertEqual(ask_with([(0, 1), (0, 1)], (SINCE, 1), (SINCE, 2)), [[0], [-2]])


class Sum(unittest.TestCase):
    def test_ordinary(self):
        self.assertEqual(ask_with(LINE, SUM), [[11, 2]])

    def test_nobody_is_there(self):
        self.assertEqual(ask_with([], SUM), [[0, 0]])
        self.assertEqual(ask_with([(1, 5)], (DROP, 0), SUM), [[5], [0, 0]])

    def test_nobody_waits(self):
        self.assertEqual(ask_with([(0, 5), (5, 0), (5, 5), (11, 1)], SUM), [[0, 0]])

    def test_one_served_no_minutes_is_counted_if_it_waits(self):
        self.assertEqual(ask_with([(0, 2), (1, 0), (2, 0)], SUM), [[1, 1]])

    def test_the_most_that_can_be(self):
        self.assertEqual(ask_with([(300, 60)] * 20, SUM), [[60 * 190, 19]])


class Longest(unittest.TestCase):
    def test_ordinary(self):
        self.assertEqual(ask_with(LINE, LONGEST), [[7, 3]])

    def test_not_only_the_last_one(self):
        self.assertEqual(ask_with([(0, 9), (1, 9), (17, 1), (300, 1)], LONGEST), [[8, 1]])

    def test_the_first_of_several(self):
        self.assertEqual(ask_with([(0, 5), (2, 0), (2, 1), (3, 4)], LONGEST), [[3, 1]])

    def test_the_first_of_all_if_nobody_waits(self):
        self.assertEqual(ask_with([(4, 1), (5, 1), (6, 1)], LONGEST), [[0, 0]])

    def test_nobody_is_there(self):
        self.assertEqual(ask_with([], LONGEST), [[-6]])
        self.assertEqual(ask_with([(1, 5)], LONGEST, (DROP, 0), LONGEST), [[0, 0], [5], [-6]])


class Over(unittest.TestCase):
    def test_ordinary(self):
        self.assertEqual(ask_with(LINE, OVER), [[42]])

    def test_nobody_is_there(self):
        self.assertEqual(ask_with([], OVER), [[0]])
        self.assertEqual(ask_with([(1, 5)], (DROP, 0), OVER), [[5], [0]])

    def test_last_one_served_no_minutes(self):
        self.assertEqual(ask_with([(2, 6), (5, 0)], OVER), [[8]])
        self.assertEqual(ask_with([(2, 6), (50, 0)], OVER), [[50]])

    def test_latest_that_can_be(self):
        self.assertEqual(ask_with([(300, 60)] * 20, OVER), [[1500]])


if __name__ == "__main__":
    unittest.main()
