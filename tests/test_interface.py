"""The interface: drivesfair.pool.answers(calls)."""

import contextlib
import io
import unittest

from drivesfair.pool import answers
from lines import LARGEST, slow_plan

# What is handed in for each call, and what is answered to it, all eight among them, taken and refused.
CALLS_AND_ANSWERS = (
    ([0, 11], [1, -22]), ([0, 3], [1, 0]), ([4], [1, -6]), ([1, 7], [1, 0]), ([2, 7], [1, 0]), ([3, 7, 2], [1, 1]),
    ([3, 6, 0], [1, -2]), ([5, 0], [2, 1, 840]), ([5, 1], [2, 0, 1680]), ([5, 3], [1, -2]), ([2, 8], [1, -22]),
    ([6, 2], [3, 1, 2, 1680]), ([6, LARGEST], [1, -2]), ([7, 3, 3, 7, 6], [4, 3, 0, 1, 1]), ([7, 0], [1, 0]),
    ([7, 1, 0], [1, -22]), ([7, 20] + [4] * 20, [1, -22]), ([4], [1, 2]), ([1, 7], [1, 1]), ([0, 1], [1, -22]),
    ([3, 7, 1], [1, 1]), ([6, 1], [3, 1, 2, 1680]), ([7, 7] + [7] * 7, [8, 7, 0, 0, 0, 1, 1, 2, 2]), ([4], [1, 1]),
)
LINE = [number for call, answer in CALLS_AND_ANSWERS for number in call]
ANSWERED = [number for call, answer in CALLS_AND_ANSWERS for number in answer]


class Unchangeable(list):
    """A list that fails at every change, so that one that is undone is seen too."""

    def refuse(self, *numbers, **named):
        raise AssertionError("what is handed in was changed")

    __setitem__ = __delitem__ = __iadd__ = __imul__ = refuse
    append = clear = extend = insert = pop = remove = reverse = sort = refuse


class InterfaceTest(unittest.TestCase):
    def test_for_each_call_how_many_numbers_and_then_these(self):
        self.assertEqual(answers(list(LINE)), ANSWERED)

    def test_a_line_of_one_call(self):
        self.assertEqual(answers([0, 2]), [1, 0])
        self.assertEqual(answers([0, 0]), [1, -22])
        self.assertEqual(answers([0, LARGEST]), [1, -22])

    def test_numbers_of_a_call_are_not_taken_for_calls(self):
        self.assertEqual(
            answers([0, 4, 1, 1, 1, 2, 1, 3, 2, 3, 3, 3, 0, 3, 2, 1, 3, 1, 3, 2, 2]),
            [1, 0, 1, 0, 1, 1, 1, 0, 1, 0, 1, 1, 1, 2, 1, -2, 1, 1],
        )

    def test_calls_behind_a_plan_are_read_at_their_place(self):
        # The days look like calls here, and the plan is refused for each number of days above 7.
        for many in range(21):
            with self.subTest(many=many):
                days = [1 + day % 3 for day in range(many)]
                planned = [1, -22] if many > 7 else [many + 1] + slow_plan(days)
                self.assertEqual(
                    answers([0, 2, 2, 3, 7, many] + days + [4, 7, many] + days + [4, 1, 3]),
                    [1, 0, 1, 0] + planned + [1, 0] + planned + [1, -6, 1, 0],
                )

    def test_a_refused_plan_in_the_midst(self):
        for days in ([7] * 20, [0] * 20, [0], [4], [65535], [4, 4, 4, 4], [3, 3, 3, 0, 3], [0, 1, 2, 3, 4, 5, 6, 7]):
            with self.subTest(days=days):
                self.assertEqual(
                    answers([0, 2, 2, 3, 2, 3, 7, len(days)] + days + [5, 0, 4, 6, 1]),
                    [1, 0, 1, 0, 1, 1, 1, -22, 2, 0, 0, 1, 1, 3, 0, 1, 1260],
                )

    def test_back_has_no_number_behind_it(self):
        self.assertEqual(answers([0, 2, 2, 3, 2, 3, 4, 4, 4, 1, 3]), [1, 0, 1, 0, 1, 1, 1, 1, 1, 0, 1, -6, 1, 0])

    def test_a_list_of_whole_numbers_is_given_back(self):
        given = answers(list(LINE))
        self.assertIs(type(given), list)
        self.assertEqual({type(number) for number in given}, {int})

    def test_what_is_handed_in_is_the_same_afterwards(self):
        calls = list(LINE)
        given = answers(calls)
        self.assertEqual(calls, LINE)
        self.assertIsNot(given, calls)

    def test_what_is_handed_in_is_not_changed_for_a_while_either(self):
        self.assertEqual(answers(Unchangeable(LINE)), ANSWERED)

    def test_nothing_is_kept_from_one_time_to_the_next(self):
        calls = list(LINE)
        first = answers(calls)
        answers([0, 2, 3, 3, 1, 3, 3, 1, 7, 2, 3, 3, 4])
        self.assertEqual(answers(calls), first)
        self.assertEqual(first, ANSWERED)

    def test_what_was_given_back_is_the_callers_own(self):
        first = answers(list(LINE))
        first.clear()
        self.assertEqual(answers(list(LINE)), ANSWERED)

    def test_2000_calls(self):
        calls = [0, 10] + [2, 1023] * 1000 + [1, 1023] * 999
        self.assertEqual(
            answers(calls),
            [1, 0] + [number for day in range(1000) for number in (1, day % 10)] + [1, 0] * 999,
        )
        self.assertEqual(answers([0, 1] * 2000), [1, -22] * 2000)
        self.assertEqual(answers([0, 2] + [4] * 1999), [1, 0] + [1, -6] * 1999)
        # The longest lists: as many refused plans of 20 days as there is room for.
        self.assertEqual(answers([0, 2] + ([7, 20] + [3] * 20) * 1363), [1, 0] + [1, -22] * 1363)

    def test_it_prints_nothing(self):
        printed = io.StringIO()
        with contextlib.redirect_stdout(printed), contextlib.redirect_stderr(printed):
            answers(list(LINE))
        self.assertEqual(printed.getvalue(), "")


if __name__ == "__main__":
    unittest.main()
