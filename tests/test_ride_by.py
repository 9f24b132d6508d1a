"""Point 3: ride_by."""

import unittest

from lines import LARGEST, ask, ask_after


class RideByTest(unittest.TestCase):
    def test_days_before_are_answered(self):
        self.assertEqual(
            ask(("start", 3), ("ride_by", 7, 2), ("ride_by", 7, 2), ("ride_by", 1, 0), ("ride", 7), ("ride_by", 6, 1)),
            [0, 0, 1, 2, 0, 4],
        )

    def test_everyone_who_rides_may_drive(self):
        for k in range(10):
            with self.subTest(k=k):
                self.assertEqual(ask(("start", 10), ("ride_by", 1023, k), ("ride_by", 2 ** k, k)), [0, 0, 1])

    def test_bits_that_are_not_as_told_are_refused(self):
        for m in (0, 8, 9, 15, 2 ** 31 + 1, LARGEST):
            with self.subTest(m=m):
                self.assertEqual(ask(("start", 3), ("ride_by", m, 0), ("ride_by", 7, 0)), [0, -22, 0])

    def test_a_driver_who_does_not_ride_is_refused(self):
        for m, k in ((6, 0), (5, 1), (3, 2), (1, 1), (4, 0)):
            with self.subTest(m=m, k=k):
                self.assertEqual(ask(("start", 3), ("ride_by", m, k), ("ride_by", 7, 0)), [0, -2, 0])

    def test_a_driver_that_there_is_not_is_refused(self):
        for k in (3, 9, 10, 31, 32, 33, 64, 65536, 2 ** 31, LARGEST - 1, LARGEST):
            with self.subTest(k=k):
                self.assertEqual(ask(("start", 3), ("ride_by", 7, k), ("ride_by", 7, 0)), [0, -2, 0])

    def test_of_bad_bits_and_a_bad_driver_the_bits_are_told_first(self):
        for m, k in ((0, 0), (0, 5), (8, 0), (8, 3), (9, 1), (LARGEST, LARGEST), (0, LARGEST)):
            with self.subTest(m=m, k=k):
                self.assertEqual(ask(("start", 3), ("ride_by", m, k)), [0, -22])

    def test_the_1000th_day_is_taken_and_the_next_refused(self):
        days = [("start", 2)] + [("ride_by", 3, 1)] * 1000
        self.assertEqual(ask(*days), [0] + list(range(1000)))
        self.assertEqual(ask_after(days, ("ride_by", 3, 0), ("ride_by", 2, 1), ("ride", 3)), [-28, -28, -28])

    def test_at_1000_days_the_refusal_told_first_is_answered(self):
        days = [("start", 3)] + [("ride_by", 7, 0)] * 1000
        for m, k, refusal in (
            (0, 0, -22), (8, 0, -22), (LARGEST, LARGEST, -22), (0, 7, -22),
            (6, 0, -2), (7, 3, -2), (7, LARGEST, -2),
            (7, 0, -28), (4, 2, -28),
        ):
            with self.subTest(m=m, k=k):
                self.assertEqual(ask_after(days, ("ride_by", m, k)), [refusal])

    def test_what_was_driven_counts_for_the_turns_after(self):
        self.assertEqual(ask(("start", 2), ("ride_by", 3, 0), ("who", 3), ("ride", 3)), [0, 0, 1, 1])
        self.assertEqual(ask(("start", 2), ("ride_by", 3, 1), ("who", 3), ("ride", 3)), [0, 0, 0, 0])
        # Person 1 is a drive ahead: the other drives twice till they're even, then once as the first of like ones.
        days = [("start", 2), ("ride_by", 3, 1), ("ride_by", 3, 1)]
        self.assertEqual(ask_after(days, *[("ride", 3)] * 4), [0, 0, 0, 1])

    def test_who_did_not_ride_owes_as_before(self):
        # Persons 2 and 3 neither gain nor lose by the days of the other two.
        days = [("start", 4), ("ride_by", 12, 3)] + [("ride_by", 3, 0)] * 4 + [("ride_by", 3, 1)] * 4
        self.assertEqual(ask_after(days, ("who", 15), ("who", 11), ("who", 9), ("who", 8)), [2, 0, 0, 3])


if __name__ == "__main__":
    unittest.main()
