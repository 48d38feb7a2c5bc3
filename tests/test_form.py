"""How calls are handed in and answers are given back."""

import unittest

from onewindow.persons import answers
from tests.lines import (
    AT, COME, COUNTS, DROP, GREATEST, IDLE, LEFT, LONGER, MOST, ORDER, OVER, PRESENT, ROOM, SINCE, START, STATE, SUM,
    TIMES, WAIT, WITHOUT, WITH_LIST, WORK, ask, ask_with, written,
)

# Number by number, as the interface writes them: a list has how many numbers it has before it.
ALL_CALLS = [
    0, 1, 3, 10, 1, 5, 4, 1, 5, 0,
    3, 1, 4, 2, 5, 2, 6, 7, 8, 9, 6, 10, 6,
    11, 6, 12, 20, 13, 14, 3, 2, 1, 0, 15, 6, 3, 1, 0, 2, 16, 0, 17, 2, 5, 18, 2, 19, 20,
    14, 0, 15, 6, 2, 1, 0, 14, 4, 0, 1, 2, 3,
    2, 0, 2, 7, 9, 2001, 11, 20, 0, 7, 14, 0, 13, 20,
]
ALL_ANSWERS = [
    1, 0, 1, 0, 1, 1, 1, 2,
    1, 8, 3, 5, 17, 17, 1, 0, 2, 20, 2, 2, 12, 2, 1, 17, 1, 11, 4, 3, 0, 1, 2,
    2, 0, 7, 1, 6, 3, 1, 3, 17, 2, 16, 17, 1, 11, 2, 4, 9, 2, 20, 22, 1, -33, 2, 3, 5, 2, 3, 14,
    1, -22, 1, -22, 1, -22,
    1, 10, 1, -2, 1, -22, 1, -33, 1, 0, 1, -6, 2, 0, 0, 1, 0, 2, 0, 0,
]


class Unchanged(list):
    """A list that lets nobody change it, not for a while either."""

    def refuse(self, *args, **kwargs):
        raise AssertionError("what was handed in is changed")

    __setitem__ = __delitem__ = __iadd__ = __imul__ = refuse
    append = extend = insert = pop = remove = clear = sort = reverse = refuse


class Form(unittest.TestCase):
    def test_each_answer_has_its_count_before_it(self):
        self.assertEqual(answers(ALL_CALLS), ALL_ANSWERS)

    def test_answers_are_whole_numbers_in_a_list(self):
        told = answers(ALL_CALLS)
        self.assertIs(type(told), list)
        self.assertEqual({type(number) for number in told}, {int})

    def test_what_is_handed_in_is_not_changed(self):
        calls = Unchanged(ALL_CALLS)
        self.assertEqual(answers(calls), ALL_ANSWERS)
        self.assertEqual(list(calls), ALL_CALLS)

    def test_nothing_is_kept_from_one_time_to_the_next(self):
        first = answers(ALL_CALLS)
        first.clear()
        self.assertEqual(answers(ALL_CALLS), ALL_ANSWERS)
        self.assertEqual(answers([OVER]), [1, -11])
        self.assertEqual(answers([START, OVER]), [1, 0, 1, 0])
        self.assertEqual(answers(ALL_CALLS), answers(ALL_CALLS))

    def test_a_line_of_200_calls(self):
        calls = [START] + [(COME, 300, 60)] * 20 + [(PRESENT, 300)] * 179
        told = ask(*calls)
        self.assertEqual(len(told), 200)
        self.assertEqual(told[1:21], [[person] for person in range(20)])
        self.assertEqual(told[21:], [[20] + list(range(20))] * 179)

    def test_a_line_of_200_calls_with_lists(self):
        falling = list(range(19, -1, -1))
        calls = [START] + [(COME, 300, 60)] * 20 + [(ORDER, falling), (LEFT, 301, falling), (ORDER, [0] * 60)] * 59
        calls += [MOST, STATE]
        told = ask(*calls)
        self.assertEqual(len(told), 200)
        self.assertEqual(told[21:198], [[60 * 190, 1500], [1199], [-22]] * 59)
        self.assertEqual(told[198:], [[20, 300], [20, 1200]])

    def test_a_line_of_one_call(self):
        self.assertEqual(answers([0]), [1, 0])
        self.assertEqual(answers([14, 0]), [1, -11])

    def test_calls_as_the_tests_write_them(self):
        self.assertEqual(written([START, (COME, 3, 4), (ORDER, [2, 0]), (LEFT, 7, []), (LEFT, 8, [0])]),
                         [0, 1, 3, 4, 14, 2, 2, 0, 15, 7, 0, 15, 8, 1, 0])


class BeforeStart(unittest.TestCase):
    def test_every_other_call_answers_minus_11(self):
        for call, count in COUNTS.items():
            if call == START:
                continue
            for number in (0, 1, 300, 2001, GREATEST):
                lists = ([], [0], [number], [number] * 60) if call in WITH_LIST else (None,)
                for row in lists:
                    asked = (call,) + (number,) * count + (() if row is None else (row,))
                    with self.subTest(asked=asked):
                        self.assertEqual(ask(asked), [[-11]])
                        self.assertEqual(ask(asked, START, (COME, 7, 2), asked, OVER)[:3], [[-11], [0], [0]])
                        self.assertEqual(ask(asked, (COME, 0, 0), asked, OVER), [[-11]] * 4)

    def test_what_is_refused_before_a_start_does_nothing(self):
        self.assertEqual(ask((COME, 1, 2), (COME, 4, 4), START, (WAIT, 0), OVER), [[-11], [-11], [0], [-2], [0]])

    def test_numbers_of_a_refused_call_are_not_read_as_calls(self):
        self.assertEqual(ask((COME, 0, 0), (WAIT, 0), (WORK, 0), SUM), [[-11]] * 4)

    def test_numbers_of_a_refused_calls_list_are_not_read_as_calls(self):
        self.assertEqual(ask((ORDER, [0]), (ORDER, [0] * 60), (LEFT, 0, [0, 0]), (LEFT, 0, []), STATE), [[-11]] * 5)
        self.assertEqual(ask_with([(0, 1)], (ORDER, [0, 0]), (ORDER, [0] * 60), (LEFT, 0, [0, 0]), (LEFT, 2001, [0]), STATE),
                         [[-22]] * 4 + [[1, 1]])


class GreatestNumbers(unittest.TestCase):
    def test_of_come(self):
        self.assertEqual(ask_with([], (COME, GREATEST, 0), (COME, 0, GREATEST), (COME, GREATEST, GREATEST), OVER),
                         [[-22], [-22], [-22], [0]])

    def test_of_persons_and_minutes(self):
        for people in ([], [(0, 1)], [(0, 60)] * 20):
            with self.subTest(people=people):
                self.assertEqual(
                    ask_with(people, (DROP, GREATEST), (WAIT, GREATEST), (TIMES, GREATEST), (SINCE, GREATEST),
                             (WORK, GREATEST), (PRESENT, GREATEST), OVER),
                    [[-2], [-2], [-2], [-2], [-22], [-22], [sum(minutes for coming, minutes in people)]])
                self.assertEqual(
                    ask_with(people, (AT, GREATEST), (IDLE, GREATEST), (WITHOUT, GREATEST), (LONGER, GREATEST, 0),
                             (LONGER, GREATEST, GREATEST), (ROOM, GREATEST), STATE),
                    [[-22], [-22], [-2], [-2], [-2], [-2], [len(people), sum(minutes for coming, minutes in people)]])

    def test_of_longer(self):
        self.assertEqual(ask_with([(0, 1)], (LONGER, 0, GREATEST), OVER), [[-22], [1]])

    def test_of_lists(self):
        for people in ([], [(0, 1)], [(0, 60)] * 20):
            order = list(range(len(people)))
            with self.subTest(people=people):
                self.assertEqual(
                    ask_with(people, (ORDER, [GREATEST]), (ORDER, [GREATEST] * 60), (ORDER, order + [GREATEST]),
                             (ORDER, order[1:] + [GREATEST]), (LEFT, GREATEST, order), (LEFT, GREATEST, [GREATEST] * 60),
                             (LEFT, 0, order[1:] + [GREATEST]), (LEFT, 2000, order)),
                    [[-22]] * 7 + [[0]])


if __name__ == "__main__":
    unittest.main()
