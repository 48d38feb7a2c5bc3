"""Point 4: order, left."""

import unittest

from tests.lines import COME, DROP, GREATEST, LEFT, ORDER, OVER, STATE, SUM, ask_with

# All come at once: whoever is served first, the others wait for it.
AT_ONCE = [(4, 10), (4, 1), (4, 5)]
# 1 comes while 0 is served, 2 long after both are done.
APART = [(2, 6), (3, 4), (50, 1)]
# What is no order of three persons.
NO_ORDERS = [
    [], [0], [0, 1], [2, 1], [0, 1, 2, 2], [0, 1, 2, 0], [0, 1, 2, 3], [0, 0, 1], [1, 1, 1], [0, 2, 2], [0, 1, 3], [3, 2, 1],
    [0, 1, GREATEST], [GREATEST, GREATEST, GREATEST], [0, 1, 2] * 20, [0] * 60, list(range(60)), [GREATEST] * 60,
]


class Order(unittest.TestCase):
    def test_ordinary(self):
        self.assertEqual(
            ask_with(AT_ONCE, (ORDER, [0, 1, 2]), (ORDER, [1, 2, 0]), (ORDER, [0, 2, 1]), (ORDER, [2, 0, 1])),
            [[21, 20], [7, 20], [25, 20], [20, 20]])

    def test_the_first_has_not_come_yet(self):
        self.assertEqual(ask_with(APART, (ORDER, [2, 1, 0]), (ORDER, [1, 0, 2]), (ORDER, [0, 1, 2])), [[5, 51]] * 3)

    def test_the_first_comes_while_another_is_served(self):
        # 0 is alone in minute 0 and served to the end; then 2 goes ahead of 1.
        people = [(0, 10), (1, 20), (9, 3)]
        self.assertEqual(ask_with(people, (ORDER, [2, 1, 0]), (ORDER, [2, 0, 1]), (ORDER, [0, 1, 2])),
                         [[1 + 12, 33], [1 + 12, 33], [9 + 21, 33]])

    def test_who_comes_as_the_window_gets_free_has_come_by_then(self):
        people = [(0, 10), (1, 20), (10, 3)]
        self.assertEqual(ask_with(people, (ORDER, [2, 1, 0])), [[12, 33]])
        people = [(0, 10), (1, 20), (11, 3)]
        self.assertEqual(ask_with(people, (ORDER, [2, 1, 0])), [[9 + 19, 33]])

    def test_the_window_waits(self):
        self.assertEqual(ask_with([(7, 2), (20, 3), (20, 1)], (ORDER, [2, 1, 0]), (ORDER, [1, 0, 2])), [[1, 24], [3, 24]])
        self.assertEqual(ask_with([(300, 0)], (ORDER, [0])), [[0, 300]])

    def test_idle_for_a_minute_between_two(self):
        self.assertEqual(ask_with([(0, 2), (3, 2), (3, 5)], (ORDER, [2, 1, 0]), (ORDER, [0, 1, 2])), [[5, 10], [2, 10]])

    def test_one_served_no_minutes(self):
        people = [(0, 4), (1, 0), (2, 3)]
        self.assertEqual(ask_with(people, (ORDER, [0, 1, 2]), (ORDER, [1, 2, 0]), (ORDER, [2, 1, 0])),
                         [[5, 7], [5, 7], [2 + 6, 7]])
        # Behind one served no minutes the next begins in the same minute.
        self.assertEqual(ask_with([(3, 0), (3, 2), (3, 0)], (ORDER, [0, 2, 1]), (ORDER, [1, 0, 2])), [[0, 5], [4, 5]])
        self.assertEqual(ask_with([(0, 2), (50, 0)], (ORDER, [1, 0]), (ORDER, [0, 1])), [[0, 50]] * 2)

    def test_no_order_of_all(self):
        for order in NO_ORDERS:
            with self.subTest(order=order):
                self.assertEqual(ask_with(AT_ONCE, (ORDER, order), SUM), [[-22], [21, 2]])

    def test_nobody_is_there(self):
        self.assertEqual(ask_with([], (ORDER, []), (ORDER, [0]), (ORDER, [0] * 60), OVER), [[0, 0], [-22], [-22], [0]])
        self.assertEqual(ask_with([(1, 5)], (ORDER, []), (ORDER, [0]), (DROP, 0), (ORDER, []), (ORDER, [0])),
                         [[-22], [0, 6], [5], [0, 0], [-22]])

    def test_an_order_of_those_who_are_there_now(self):
        self.assertEqual(ask_with(AT_ONCE, (DROP, 1), (ORDER, [0, 1, 2]), (ORDER, [1, 0]), (COME, 4, 2), (ORDER, [2, 1, 0])),
                         [[1], [-22], [5, 19], [2], [9, 21]])

    def test_all_twenty(self):
        people = [(300, minutes) for minutes in range(41, 61)]
        over = 300 + sum(range(41, 61))
        # In either order the one served at place k (from 0) is waited for by the 19 - k behind it.
        rising = sum((19 - k) * (41 + k) for k in range(20))
        falling = sum((19 - k) * (60 - k) for k in range(20))
        self.assertEqual(ask_with(people, (ORDER, list(range(20))), (ORDER, list(range(19, -1, -1))), (ORDER, list(range(19))),
                                  (ORDER, list(range(21))), (ORDER, list(range(19)) + [18])),
                         [[rising, over], [falling, over], [-22], [-22], [-22]])

    def test_it_changes_nothing(self):
        told = ask_with(AT_ONCE, (ORDER, [2, 1, 0]), (LEFT, 5, [2, 1, 0]), SUM, OVER, STATE)
        self.assertEqual(told[2:], ask_with(AT_ONCE, SUM, OVER, STATE))


class Left(unittest.TestCase):
    def test_ordinary(self):
        for order in ([0, 1, 2], [1, 2, 0], [2, 1, 0]):
            with self.subTest(order=order):
                told = ask_with(AT_ONCE, *[(LEFT, minute, order) for minute in (0, 3, 4, 5, 6, 10, 19, 20)])
                self.assertEqual(told, [[0], [0], [16], [15], [14], [10], [1], [0]])

    def test_the_first_has_not_come_yet(self):
        told = ask_with(APART, *[(LEFT, minute, [2, 1, 0]) for minute in (1, 2, 3, 8, 11, 12, 49, 50, 51)])
        self.assertEqual(told, [[0], [6], [9], [4], [1], [0], [0], [1], [0]])

    def test_who_waits_has_all_its_minutes_left(self):
        self.assertEqual(ask_with([(0, 60), (0, 5)], *[(LEFT, minute, [1, 0]) for minute in (0, 4, 5, 6, 64, 65)]),
                         [[65], [61], [60], [59], [1], [0]])

    def test_one_served_no_minutes(self):
        people = [(0, 4), (1, 0), (2, 3)]
        for order in ([0, 1, 2], [1, 2, 0], [2, 1, 0]):
            with self.subTest(order=order):
                told = ask_with(people, *[(LEFT, minute, order) for minute in range(8)])
                self.assertEqual(told, [[4], [3], [5], [4], [3], [2], [1], [0]])

    def test_no_order_of_all(self):
        for order in NO_ORDERS:
            with self.subTest(order=order):
                self.assertEqual(ask_with(AT_ONCE, (LEFT, 4, order), (LEFT, 2001, order), SUM), [[-22], [-22], [21, 2]])

    def test_minutes_2000_and_2001(self):
        for people in ([], [(0, 5)], [(300, 60)] * 20):
            order = list(range(len(people)))[::-1]
            with self.subTest(people=people):
                self.assertEqual(ask_with(people, (LEFT, 2000, order), (LEFT, 2001, order), (LEFT, GREATEST, order)),
                                 [[0], [-22], [-22]])

    def test_nobody_is_there(self):
        self.assertEqual(ask_with([], (LEFT, 0, []), (LEFT, 2000, []), (LEFT, 0, [0]), (LEFT, 2001, [])),
                         [[0], [0], [-22], [-22]])
        self.assertEqual(ask_with([(1, 5)], (LEFT, 1, []), (DROP, 0), (LEFT, 1, [])), [[-22], [5], [0]])

    def test_all_twenty(self):
        order = list(range(19, -1, -1))
        self.assertEqual(ask_with([(300, 60)] * 20, *[(LEFT, minute, order) for minute in (299, 300, 301, 1499, 1500)]),
                         [[0], [1200], [1199], [1], [0]])


if __name__ == "__main__":
    unittest.main()
