"""Point 6: most, state."""

import unittest

from tests.lines import COME, DROP, MOST, START, STATE, ask, ask_with


class Most(unittest.TestCase):
    def test_ordinary(self):
        self.assertEqual(ask_with([(2, 3), (3, 2), (9, 1)], MOST), [[2, 3]])
        self.assertEqual(ask_with([(2, 3), (9, 4), (10, 1), (11, 1), (40, 1)], MOST), [[3, 11]])

    def test_nobody_is_there(self):
        self.assertEqual(ask_with([], MOST), [[0, 0]])
        self.assertEqual(ask_with([(7, 5)], MOST, (DROP, 0), MOST), [[1, 7], [5], [0, 0]])

    def test_persons_of_no_minutes_alone(self):
        self.assertEqual(ask_with([(0, 0)], MOST), [[0, 0]])
        self.assertEqual(ask_with([(5, 0), (5, 0), (300, 0)], MOST), [[0, 0]])

    def test_one_served_no_minutes_is_there_while_it_waits(self):
        self.assertEqual(ask_with([(0, 3), (1, 0)], MOST), [[2, 1]])
        self.assertEqual(ask_with([(0, 3), (3, 0)], MOST), [[1, 0]])

    def test_the_first_of_several_minutes(self):
        self.assertEqual(ask_with([(4, 1), (6, 1), (8, 1)], MOST), [[1, 4]])
        self.assertEqual(ask_with([(4, 1), (6, 9), (7, 1), (50, 3), (51, 3)], MOST), [[2, 7]])

    def test_who_comes_as_another_is_done_is_not_there_with_it(self):
        self.assertEqual(ask_with([(0, 3), (3, 2)], MOST), [[1, 0]])
        self.assertEqual(ask_with([(0, 4), (3, 2)], MOST), [[2, 3]])

    def test_several_in_one_minute(self):
        self.assertEqual(ask_with([(4, 1), (4, 2), (4, 1)], MOST), [[3, 4]])
        self.assertEqual(ask_with([(0, 1), (4, 0), (4, 2), (4, 1)], MOST), [[2, 4]])

    def test_all_twenty(self):
        self.assertEqual(ask_with([(300, 60)] * 20, MOST), [[20, 300]])
        self.assertEqual(ask_with([(k, 60) for k in range(20)], MOST), [[20, 19]])


class State(unittest.TestCase):
    def test_ordinary(self):
        self.assertEqual(ask_with([(2, 3), (3, 0), (9, 60)], STATE), [[3, 63]])

    def test_nobody_is_there(self):
        self.assertEqual(ask_with([], STATE), [[0, 0]])

    def test_after_drops(self):
        self.assertEqual(ask_with([(2, 3), (3, 0), (9, 60)], (DROP, 0), STATE, (DROP, 0), STATE, (DROP, 1), STATE, (DROP, 0),
                                  STATE),
                         [[3], [2, 60], [0], [1, 60], [-2], [1, 60], [60], [0, 0]])

    def test_who_was_refused_does_not_count(self):
        self.assertEqual(ask_with([(9, 4)], (COME, 8, 1), (COME, 9, 61), (COME, 301, 1), STATE), [[-22], [-22], [-22], [1, 4]])
        self.assertEqual(ask_with([(0, 60)] * 20, (COME, 0, 1), STATE), [[-28], [20, 1200]])

    def test_after_a_second_start(self):
        self.assertEqual(ask(START, (COME, 1, 2), STATE, MOST, START, STATE, MOST),
                         [[0], [0], [1, 2], [1, 1], [0], [0, 0], [0, 0]])


if __name__ == "__main__":
    unittest.main()
