"""Point 3: work, present, at, idle, spans."""

import unittest

from tests.lines import AT, DROP, IDLE, PRESENT, SPANS, WORK, ask_with


def at_minutes(call, people, minutes):
    return ask_with(people, *[(call, minute) for minute in minutes])


class Work(unittest.TestCase):
    def test_ordinary(self):
        told = at_minutes(WORK, [(2, 3), (3, 2), (9, 1)], range(12))
        self.assertEqual(told, [[0], [0], [3], [4], [3], [2], [1], [0], [0], [1], [0], [0]])

    def test_who_comes_in_that_minute_counts_whole(self):
        self.assertEqual(at_minutes(WORK, [(7, 30), (8, 20)], (6, 7, 8)), [[0], [30], [49]])

    def test_who_comes_later_does_not_count(self):
        self.assertEqual(at_minutes(WORK, [(0, 60), (10, 60)], (9, 10)), [[51], [110]])

    def test_who_waits_has_all_its_minutes_left(self):
        self.assertEqual(at_minutes(WORK, [(0, 60), (0, 5)], (0, 59, 60, 61, 65)), [[65], [6], [5], [4], [0]])

    def test_who_comes_as_the_window_gets_free(self):
        self.assertEqual(at_minutes(WORK, [(0, 3), (3, 2)], range(6)), [[3], [2], [1], [2], [1], [0]])

    def test_one_served_no_minutes(self):
        self.assertEqual(at_minutes(WORK, [(0, 3), (1, 0)], range(4)), [[3], [2], [1], [0]])
        self.assertEqual(at_minutes(WORK, [(5, 0)], (4, 5, 6)), [[0], [0], [0]])

    def test_nobody_is_there(self):
        self.assertEqual(at_minutes(WORK, [], (0, 1, 300, 2000)), [[0]] * 4)
        self.assertEqual(ask_with([(1, 5)], (DROP, 0), (WORK, 1)), [[5], [0]])

    def test_minutes_2000_and_2001(self):
        for people in ([], [(0, 5)], [(300, 60)] * 20):
            with self.subTest(people=people):
                self.assertEqual(at_minutes(WORK, people, (2000, 2001)), [[0], [-22]])

    def test_the_most_that_can_be(self):
        self.assertEqual(at_minutes(WORK, [(300, 60)] * 20, (299, 300, 301, 1499, 1500)),
                         [[0], [1200], [1199], [1], [0]])


class Present(unittest.TestCase):
    def test_ordinary(self):
        told = at_minutes(PRESENT, [(2, 3), (3, 2), (9, 1)], range(12))
        self.assertEqual(told, [[0], [0], [1, 0], [2, 0, 1], [2, 0, 1], [1, 1], [1, 1], [0], [0], [1, 2], [0], [0]])

    def test_who_comes_as_the_window_gets_free(self):
        self.assertEqual(at_minutes(PRESENT, [(0, 3), (3, 2)], range(6)), [[1, 0], [1, 0], [1, 0], [1, 1], [1, 1], [0]])

    def test_several_in_one_minute(self):
        self.assertEqual(at_minutes(PRESENT, [(4, 1), (4, 2), (4, 1)], range(3, 9)),
                         [[0], [3, 0, 1, 2], [2, 1, 2], [2, 1, 2], [1, 2], [0]])

    def test_one_served_no_minutes_is_there_while_it_waits(self):
        self.assertEqual(at_minutes(PRESENT, [(0, 3), (1, 0)], range(4)), [[1, 0], [2, 0, 1], [2, 0, 1], [0]])

    def test_one_served_no_minutes_who_does_not_wait_is_never_there(self):
        self.assertEqual(at_minutes(PRESENT, [(5, 0), (5, 2)], range(4, 8)), [[0], [1, 1], [1, 1], [0]])

    def test_nobody_is_there(self):
        self.assertEqual(at_minutes(PRESENT, [], (0, 1, 300, 2000)), [[0]] * 4)
        self.assertEqual(ask_with([(1, 5)], (DROP, 0), (PRESENT, 1)), [[5], [0]])

    def test_minutes_2000_and_2001(self):
        for people in ([], [(0, 5)], [(300, 60)] * 20):
            with self.subTest(people=people):
                self.assertEqual(at_minutes(PRESENT, people, (2000, 2001)), [[0], [-22]])

    def test_all_twenty(self):
        self.assertEqual(at_minutes(PRESENT, [(300, 60)] * 20, (299, 300, 1499, 1500)),
                         [[0], [20] + list(range(20)), [1, 19], [0]])


class At(unittest.TestCase):
    def test_ordinary(self):
        told = at_minutes(AT, [(2, 3), (3, 2), (9, 1)], range(12))
        self.assertEqual(told, [[-33], [-33], [0, 3], [0, 2], [0, 1], [1, 2], [1, 1], [-33], [-33], [2, 1], [-33], [-33]])

    def test_begins_last_minute_and_done(self):
        self.assertEqual(at_minutes(AT, [(7, 30)], (6, 7, 8, 35, 36, 37)),
                         [[-33], [0, 30], [0, 29], [0, 2], [0, 1], [-33]])

    def test_who_comes_as_the_window_gets_free(self):
        self.assertEqual(at_minutes(AT, [(0, 3), (3, 2)], range(6)), [[0, 3], [0, 2], [0, 1], [1, 2], [1, 1], [-33]])

    def test_who_waits_is_not_at_the_window(self):
        self.assertEqual(at_minutes(AT, [(0, 4), (0, 60), (1, 2)], (0, 1, 3, 4, 63, 64, 65, 66)),
                         [[0, 4], [0, 3], [0, 1], [1, 60], [1, 1], [2, 2], [2, 1], [-33]])

    def test_one_served_no_minutes_is_never_at_the_window(self):
        self.assertEqual(at_minutes(AT, [(5, 0)], (4, 5, 6)), [[-33]] * 3)
        self.assertEqual(at_minutes(AT, [(5, 0), (5, 0), (5, 2), (6, 0), (7, 0), (7, 1)], (4, 5, 6, 7, 8)),
                         [[-33], [2, 2], [2, 1], [5, 1], [-33]])

    def test_idle_for_a_minute_between_two(self):
        self.assertEqual(at_minutes(AT, [(0, 2), (3, 2)], range(6)), [[0, 2], [0, 1], [-33], [1, 2], [1, 1], [-33]])

    def test_nobody_is_there(self):
        self.assertEqual(at_minutes(AT, [], (0, 1, 300, 2000)), [[-33]] * 4)
        self.assertEqual(ask_with([(1, 5)], (DROP, 0), (AT, 1)), [[5], [-33]])

    def test_minutes_2000_and_2001(self):
        for people in ([], [(0, 5)], [(300, 60)] * 20):
            with self.subTest(people=people):
                self.assertEqual(at_minutes(AT, people, (2000, 2001)), [[-33], [-22]])

    def test_all_twenty(self):
        self.assertEqual(at_minutes(AT, [(300, 60)] * 20, (299, 300, 359, 360, 1440, 1499, 1500)),
                         [[-33], [0, 60], [0, 1], [1, 60], [19, 60], [19, 1], [-33]])


class Idle(unittest.TestCase):
    def test_ordinary(self):
        told = at_minutes(IDLE, [(2, 3), (3, 2), (9, 1)], range(13))
        self.assertEqual(told, [[0], [1], [2], [2], [2], [2], [2], [2], [3], [4], [4], [5], [6]])

    def test_of_the_first_0_minutes(self):
        for people in ([], [(0, 5)], [(1, 5)]):
            with self.subTest(people=people):
                self.assertEqual(at_minutes(IDLE, people, (0,)), [[0]])

    def test_the_minute_itself_does_not_count(self):
        self.assertEqual(at_minutes(IDLE, [(1, 1)], (0, 1, 2, 3)), [[0], [1], [1], [2]])
        self.assertEqual(at_minutes(IDLE, [(0, 1)], (0, 1, 2, 3)), [[0], [0], [1], [2]])

    def test_idle_for_a_minute_between_two(self):
        self.assertEqual(at_minutes(IDLE, [(0, 2), (3, 2)], range(7)), [[0], [0], [0], [1], [1], [1], [2]])

    def test_one_served_no_minutes_leaves_it_idle(self):
        self.assertEqual(at_minutes(IDLE, [(5, 0)], (4, 5, 6, 7)), [[4], [5], [6], [7]])

    def test_nobody_is_there(self):
        self.assertEqual(at_minutes(IDLE, [], (0, 1, 300, 2000)), [[0], [1], [300], [2000]])
        self.assertEqual(ask_with([(1, 5)], (IDLE, 10), (DROP, 0), (IDLE, 10)), [[5], [5], [10]])

    def test_minutes_2000_and_2001(self):
        for people, idle in (([], 2000), ([(0, 5)], 1995), ([(300, 60)] * 20, 800)):
            with self.subTest(people=people):
                self.assertEqual(at_minutes(IDLE, people, (2000, 2001)), [[idle], [-22]])


class Spans(unittest.TestCase):
    def check(self, people, *spans):
        with self.subTest(people=people):
            told = [len(spans)] + [minute for span in spans for minute in span]
            self.assertEqual(ask_with(people, SPANS), [told])

    def test_ordinary(self):
        self.check([(2, 3), (3, 2), (9, 1), (20, 4)], (2, 7), (9, 10), (20, 24))

    def test_nobody_is_there(self):
        self.check([])
        self.assertEqual(ask_with([(1, 5)], (DROP, 0), SPANS), [[5], [0]])

    def test_a_span_of_one_minute(self):
        self.check([(0, 1)], (0, 1))
        self.check([(7, 1)], (7, 8))
        self.check([(300, 1)], (300, 301))

    def test_two_who_follow_without_a_gap_are_in_one(self):
        self.check([(0, 3), (3, 2)], (0, 5))
        self.check([(0, 3), (1, 2), (5, 1)], (0, 6))

    def test_idle_for_a_minute_between_two(self):
        self.check([(0, 3), (4, 2)], (0, 3), (4, 6))

    def test_one_served_no_minutes_makes_none_and_parts_none(self):
        self.check([(5, 0)])
        self.check([(0, 0), (4, 0), (300, 0)])
        self.check([(5, 0), (5, 2)], (5, 7))
        self.check([(5, 2), (6, 0)], (5, 7))
        self.check([(5, 2), (7, 0)], (5, 7))
        self.check([(5, 2), (7, 0), (7, 2)], (5, 9))
        self.check([(5, 2), (6, 0), (7, 2)], (5, 9))
        self.check([(5, 2), (8, 0), (9, 2)], (5, 7), (9, 11))
        self.check([(5, 2), (7, 0), (8, 2)], (5, 7), (8, 10))
        self.check([(5, 2), (8, 0), (8, 2)], (5, 7), (8, 10))

    def test_after_a_drop(self):
        self.assertEqual(ask_with([(0, 3), (3, 2), (5, 1)], SPANS, (DROP, 1), SPANS), [[1, 0, 6], [2], [2, 0, 3, 5, 6]])

    def test_all_twenty(self):
        self.check([(300, 60)] * 20, (300, 1500))
        self.check([(2 * k, 1) for k in range(20)], *[(2 * k, 2 * k + 1) for k in range(20)])


if __name__ == "__main__":
    unittest.main()
