"""Point 1: start."""

import unittest

from lines import LARGEST, ask, ask_after


class StartTest(unittest.TestCase):
    def test_two_to_ten_people_are_answered_0(self):
        for n in range(2, 11):
            with self.subTest(n=n):
                self.assertEqual(ask(("start", n)), [0])

    def test_there_are_as_many_people_as_told(self):
        for n in range(2, 11):
            with self.subTest(n=n):
                self.assertEqual(
                    ask(("start", n), ("who", 2 ** (n - 1)), ("who", 2 ** n - 1), ("who", 2 ** n)),
                    [0, n - 1, 0, -22],
                )

    def test_other_numbers_of_people_are_refused(self):
        for n in (0, 1, 11, 12, 32, 258, 65538, LARGEST - 1, LARGEST):
            with self.subTest(n=n):
                self.assertEqual(ask(("start", n)), [-22])

    def test_another_start_may_come_after_refused_ones(self):
        self.assertEqual(
            ask(("start", 0), ("start", 1), ("start", 11), ("start", LARGEST), ("start", 2), ("who", 3), ("who", 4)),
            [-22, -22, -22, -22, 0, 0, -22],
        )

    def test_a_start_that_comes_again_has_no_days(self):
        before = [("start", 3), ("ride_by", 7, 0), ("ride_by", 7, 0)]
        self.assertEqual(ask_after(before, ("who", 7), ("ride_by", 7, 0)), [1, 2])
        self.assertEqual(ask_after(before, ("start", 3), ("who", 7), ("ride_by", 7, 0)), [0, 0, 0])

    def test_a_start_that_comes_again_has_its_own_people(self):
        self.assertEqual(
            ask(("start", 10), ("ride", 1023), ("start", 2), ("who", 4), ("who", 3), ("start", 5), ("who", 16)),
            [0, 0, 0, -22, 0, 0, 4],
        )

    def test_nothing_is_owed_from_before_a_start(self):
        rides = [("ride", 15)] * 5
        self.assertEqual(
            ask(("start", 4), ("ride", 15), ("ride", 15), ("start", 4), *rides),
            [0, 0, 1, 0, 0, 1, 2, 3, 0],
        )

    def test_a_refused_start_leaves_people_and_days(self):
        before = [("start", 3), ("ride", 7), ("ride_by", 6, 1)]
        behind = [("who", 7), ("who", 4), ("who", 8), ("ride_by", 1, 0), ("ride", 7)]
        expected = ask_after(before, *behind)
        self.assertEqual(expected, [2, 2, -22, 2, 2])
        for n in (0, 1, 11, LARGEST):
            with self.subTest(n=n):
                self.assertEqual(ask_after(before, ("start", n), *behind), [-22] + expected)


if __name__ == "__main__":
    unittest.main()
