"""Point 3, so far: work, present."""

import unittest

from tests.lines import DROP, PRESENT, WORK, ask_with


def at_minutes(call, people, minutes):
    return ask_with(people, *[(call, minute) for minute in minutes])


class Work(unittest.TestCase):
    def test_ordinary(self):
        told = at_minutes(WORK, [(2, 3), (3, 2), (9, 1)], range(12))
        self.assertEqual(told, [[0], [0], [3], [4], [3], [2], [1], [0], [0], [1], [0], [0]])

    def test_who_comes_in_that_minute_counts_whole(self):
        self.assertEqual(at_minutes(WORK, [(7, 30), (8, 20)], (6, 7, 8)), [[0], [30], [49]])

    def test_who_comes_later_does_not_count(self):
        self.assertEqual(at_minutes(WORK, [(0, 60), (10, 60)], (9, 10)), [[51], [110]])

    def test_who_waits_has_all_its_minutes_left(self):
        self.assertEqual(at_minutes(WORK, [(0, 60), (0, 5)], (0, 59, 60, 61, 65)), [[65], [6], [5], [4], [0]])

    def test_who_comes_as_the_window_gets_free(self):
        self.assertEqual(at_minutes(WORK, [(0, 3), (3, 2)], range(6)), [[3], [2], [1], [2], [1], [0]])

    def test_one_served_no_minutes(self):
        self.assertEqual(at_minutes(WORK, [(0, 3), (1, 0)], range(4)), [[3], [2], [1], [0]])
        self.assertEqual(at_minutes(WORK, [(5, 0)], (4, 5, 6)), [[0], [0], [0]])

    def test_nobody_is_there(self):
        self.assertEqual(at_minutes(WORK, [], (0, 1, 300, 2000)), [[0]] * 4)
        self.assertEqual(ask_with([(1, 5)], (DROP, 0), (WORK, 1)), [[5], [0]])

    def test_minutes_2000_and_2001(self):
        for people in ([], [(0, 5)], [(300, 60)] * 20):
            with self.subTest(people=people):
                self.assertEqual(at_minutes(WORK, people, (2000, 2001)), [[0], [-22]])

    def test_the_most_that_can_be(self):
        self.assertEqual(at_minutes(WORK, [(300, 60)] * 20, (299, 300, 301, 1499, 1500)),
                         [[0], [1200], [1199], [1], [0]])


class Present(unittest.TestCase):
    def test_ordinary(self):
        told = at_minutes(PRESENT, [(2, 3), (3, 2), (9, 1)], range(12))
        self.assertEqual(told, [[0], [0], [1, 0], [2, 0, 1], [2, 0, 1], [1, 1], [1, 1], [0], [0], [1, 2], [0], [0]])

    def test_who_comes_as_the_window_gets_free(self):
        self.assertEqual(at_minutes(PRESENT, [(0, 3), (3, 2)], range(6)), [[1, 0], [1, 0], [1, 0], [1, 1], [1, 1], [0]])

    def test_several_in_one_minute(self):
        self.assertEqual(at_minutes(PRESENT, [(4, 1), (4, 2), (4, 1)], range(3, 9)),
                         [[0], [3, 0, 1, 2], [2, 1, 2], [2, 1, 2], [1, 2], [0]])

    def test_one_served_no_minutes_is_there_while_it_waits(self):
        self.assertEqual(at_minutes(PRESENT, [(0, 3), (1, 0)], range(4)), [[1, 0], [2, 0, 1], [2, 0, 1], [0]])

    def test_one_served_no_minutes_who_does_not_wait_is_never_there(self):
        self.assertEqual(at_minutes(PRESENT, [(5, 0), (5, 2)], range(4, 8)), [[0], [1, 1], [1, 1], [0]])

    def test_nobody_is_there(self):
        self.assertEqual(at_minutes(PRESENT, [], (0, 1, 300, 2000)), [[0]] * 4)
        self.assertEqual(ask_with([(1, 5)], (DROP, 0), (PRESENT, 1)), [[5], [0]])

    def test_minutes_2000_and_2001(self):
        for people in ([], [(0, 5)], [(300, 60)] * 20):
            with self.subTest(people=people):
                self.assertEqual(at_minutes(PRESENT, people, (2000, 2001)), [[0], [-22]])

    def test_all_twenty(self):
        self.assertEqual(at_minutes(PRESENT, [(300, 60)] * 20, (299, 300, 1499, 1500)),
                         [[0], [20] + list(range(20)), [1, 19], [0]])


if __name__ == "__main__":
    unittest.main()
