"""Point 5: without, longer, room."""

import unittest

from tests.lines import COME, DROP, GREATEST, LONGER, OVER, ROOM, STATE, SUM, TIMES, WITHOUT, ask_with

# 0 is served from 10 to 15; 1 comes as the window gets free; 2 waits for 1, and 3 for both;
# 4 comes to an idle window, is served no minutes, and keeps 5 waiting not at all.
LINE = [(10, 5), (15, 6), (17, 3), (17, 4), (40, 0), (40, 2)]


def of_all(call, people):
    return ask_with(people, *[(call, person) for person in range(len(people))])


class Without(unittest.TestCase):
    def test_ordinary(self):
        self.assertEqual(of_all(WITHOUT, LINE), [[11, 42], [3, 42], [4, 42], [4, 42], [11, 42], [11, 40]])

    def test_its_own_wait_does_not_count(self):
        self.assertEqual(of_all(WITHOUT, [(0, 10), (1, 0)]), [[0, 1], [0, 10]])

    def test_the_only_one(self):
        self.assertEqual(ask_with([(300, 60)], (WITHOUT, 0)), [[0, 0]])

    def test_no_such_person(self):
        self.assertEqual(ask_with([], (WITHOUT, 0)), [[-2]])
        self.assertEqual(ask_with([(0, 1), (0, 1)], (WITHOUT, 1), (WITHOUT, 2), (WITHOUT, GREATEST)), [[0, 1], [-2], [-2]])

    def test_it_changes_nothing(self):
        told = ask_with(LINE, (WITHOUT, 1), (WITHOUT, 1), SUM, OVER, STATE, (TIMES, 5))
        self.assertEqual(told, [[3, 42], [3, 42], [11, 2], [42], [6, 20], [40, 40, 42]])

    def test_all_twenty(self):
        self.assertEqual(of_all(WITHOUT, [(300, 60)] * 20), [[60 * 171, 1440]] * 20)


class Longer(unittest.TestCase):
    def test_ordinary(self):
        self.assertEqual(
            ask_with(LINE, (LONGER, 0, 1), (LONGER, 1, 2), (LONGER, 2, 12), (LONGER, 2, 14), (LONGER, 4, 3), (LONGER, 5, 9)),
            [[14, 42], [15, 42], [23, 42], [25 + 2 * 2, 44], [14, 45], [11, 51]])

    def test_no_minutes_longer(self):
        for person in range(len(LINE)):
            with self.subTest(person=person):
                self.assertEqual(ask_with(LINE, (LONGER, person, 0)), [[11, 42]])

    def test_60_and_61_longer(self):
        self.assertEqual(ask_with([(4, 60), (4, 5)], (LONGER, 0, 60), (LONGER, 0, 61), (LONGER, 1, 60), (LONGER, 1, GREATEST)),
                         [[120, 129], [-22], [60, 129], [-22]])

    def test_no_such_person_comes_ahead_of_too_many_minutes(self):
        self.assertEqual(ask_with([], (LONGER, 0, 0), (LONGER, 0, 61)), [[-2], [-2]])
        self.assertEqual(
            ask_with([(0, 1)], (LONGER, 1, 60), (LONGER, 1, 61), (LONGER, GREATEST, GREATEST), (LONGER, 0, 61)),
            [[-2], [-2], [-2], [-22]])

    def test_it_changes_nothing(self):
        told = ask_with(LINE, (LONGER, 1, 2), (LONGER, 1, 2), SUM, OVER, STATE, (DROP, 1))
        self.assertEqual(told, [[15, 42], [15, 42], [11, 2], [42], [6, 20], [6]])

    def test_all_twenty(self):
        self.assertEqual(ask_with([(300, 60)] * 20, (LONGER, 0, 60), (LONGER, 19, 60)),
                         [[60 * 190 + 60 * 19, 1560], [60 * 190, 1560]])


class Room(unittest.TestCase):
    def test_ordinary(self):
        self.assertEqual(of_all(ROOM, LINE), [[0], [0], [0], [12], [0], [-33]])

    def test_before_the_next(self):
        self.assertEqual(ask_with([(3, 7), (9, 1)], (ROOM, 0)), [[0]])
        self.assertEqual(ask_with([(3, 7), (10, 1)], (ROOM, 0)), [[0]])
        self.assertEqual(ask_with([(3, 7), (11, 1)], (ROOM, 0)), [[1]])
        self.assertEqual(ask_with([(3, 7), (90, 1)], (ROOM, 0)), [[80]])

    def test_the_last_one(self):
        self.assertEqual(ask_with([(0, 0)], (ROOM, 0)), [[-33]])
        self.assertEqual(ask_with([(0, 5), (2, 5), (300, 60)], (ROOM, 2)), [[-33]])
        self.assertEqual(ask_with([(0, 5), (2, 5)], (ROOM, 1), (COME, 30, 1), (ROOM, 1), (DROP, 2), (ROOM, 1)),
                         [[-33], [2], [20], [1], [-33]])

    def test_the_most_that_is_answered_is_far_below_1000(self):
        self.assertEqual(ask_with([(0, 0), (300, 60)], (ROOM, 0)), [[300]])
        self.assertEqual(ask_with([(0, 0), (300, 0)], (ROOM, 0), (ROOM, 1)), [[300], [-33]])

    def test_only_persons_of_no_minutes_behind_it(self):
        # They may not wait longer either.
        self.assertEqual(of_all(ROOM, [(0, 5), (9, 0), (9, 0), (20, 0)]), [[4], [0], [11], [-33]])
        self.assertEqual(of_all(ROOM, [(0, 5), (3, 0)]), [[0], [-33]])

    def test_those_behind_it_already_wait(self):
        # 1 waits, so 0 has no room, though there's a gap behind 1.
        self.assertEqual(of_all(ROOM, [(0, 5), (4, 2), (30, 1)]), [[0], [23], [-33]])

    def test_one_far_behind_does_not_matter(self):
        self.assertEqual(of_all(ROOM, [(0, 5), (10, 20), (11, 1), (31, 1)]), [[5], [0], [0], [-33]])

    def test_several_in_one_minute(self):
        self.assertEqual(of_all(ROOM, [(8, 0), (8, 0), (8, 3), (8, 0)]), [[0], [0], [0], [-33]])

    def test_no_such_person(self):
        self.assertEqual(ask_with([], (ROOM, 0)), [[-2]])
        self.assertEqual(ask_with([(0, 1), (0, 1)], (ROOM, 1), (ROOM, 2), (ROOM, GREATEST)), [[-33], [-2], [-2]])


if __name__ == "__main__":
    unittest.main()
