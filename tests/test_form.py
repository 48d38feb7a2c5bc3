"""How calls are handed in and answers are given back."""

import unittest

from onewindow.persons import answers
from tests.lines import (
    COME, COUNTS, DROP, GREATEST, LONGEST, OVER, PRESENT, SINCE, START, SUM, TIMES, WAIT, WORK, ask, ask_with, written,
)

ALL_CALLS = written([
    START, (COME, 3, 10), (COME, 5, 4), (COME, 5, 0), (WAIT, 1), (TIMES, 2), (SINCE, 2), SUM, LONGEST, OVER,
    (WORK, 6), (PRESENT, 6), (DROP, 0), (DROP, 7), (WORK, 2001), START, LONGEST,
])
ALL_ANSWERS = [
    1, 0, 1, 0, 1, 1, 1, 2, 1, 8, 3, 5, 17, 17, 1, 0, 2, 20, 2, 2, 12, 2, 1, 17,
    1, 11, 4, 3, 0, 1, 2, 1, 10, 1, -2, 1, -22, 1, 0, 1, -6,
]


class Unchanged(list):
    """A list that lets nobody change it, not for a while either."""

    def refuse(self, *args, **kwargs):
        raise AssertionError("what was handed in is changed")

    __setitem__ = __delitem__ = __iadd__ = __imul__ = refuse
    append = extend = insert = pop = remove = clear = sort = reverse = refuse


class Form(unittest.TestCase):
    def test_each_answer_has_its_count_before_it(self):
        self.assertEqual(answers(ALL_CALLS), ALL_ANSWERS)

    def test_answers_are_whole_numbers_in_a_list(self):
        told = answers(ALL_CALLS)
        self.assertIs(type(told), list)
        self.assertEqual({type(number) for number in told}, {int})

    def test_what_is_handed_in_is_not_changed(self):
        calls = Unchanged(ALL_CALLS)
        self.assertEqual(answers(calls), ALL_ANSWERS)
        self.assertEqual(list(calls), ALL_CALLS)

    def test_nothing_is_kept_from_one_time_to_the_next(self):
        first = answers(ALL_CALLS)
        first.clear()
        self.assertEqual(answers(ALL_CALLS), ALL_ANSWERS)
        self.assertEqual(answers([OVER]), [1, -11])
        self.assertEqual(answers([START, OVER]), [1, 0, 1, 0])
        self.assertEqual(answers(ALL_CALLS), answers(ALL_CALLS))

    def test_a_line_of_200_calls(self):
        calls = [START] + [(COME, 300, 60)] * 20 + [(PRESENT, 300)] * 179
        told = ask(*calls)
        self.assertEqual(len(told), 200)
        self.assertEqual(told[1:21], [[person] for person in range(20)])
        self.assertEqual(told[21:], [[20] + list(range(20))] * 179)


class BeforeStart(unittest.TestCase):
    def test_every_other_call_answers_minus_11(self):
        for call, count in COUNTS.items():
            if call == START:
                continue
            for number in (0, 1, 300, 2001, GREATEST):
                with self.subTest(call=call, number=number):
                    self.assertEqual(ask((call,) + (number,) * count), [[-11]])

    def test_what_is_refused_before_a_start_does_nothing(self):
        self.assertEqual(ask((COME, 1, 2), (COME, 4, 4), START, (WAIT, 0), OVER), [[-11], [-11], [0], [-2], [0]])

    def test_numbers_of_a_refused_call_are_not_read_as_calls(self):
        self.assertEqual(ask((COME, 0, 0), (WAIT, 0), (WORK, 0), SUM), [[-11]] * 4)


class GreatestNumbers(unittest.TestCase):
    def test_of_come(self):
        self.assertEqual(ask_with([], (COME, GREATEST, 0), (COME, 0, GREATEST), (COME, GREATEST, GREATEST), OVER),
                         [[-22], [-22], [-22], [0]])

    def test_of_persons_and_minutes(self):
        for people in ([], [(0, 1)], [(0, 60)] * 20):
            with self.subTest(people=people):
                self.assertEqual(
                    ask_with(people, (DROP, GREATEST), (WAIT, GREATEST), (TIMES, GREATEST), (SINCE, GREATEST),
                             (WORK, GREATEST), (PRESENT, GREATEST), OVER),
                    [[-2], [-2], [-2], [-2], [-22], [-22], [sum(minutes for coming, minutes in people)]])


if __name__ == "__main__":
    unittest.main()
