"""Point 2: who and ride."""

import unittest

from lines import LARGEST, ask, ask_after


def bits_not_as_told(n):
    """Nobody; somebody that there isn't, alone and beside others; large numbers."""
    return (0, 2 ** n, 2 ** n + 1, 2 ** (n + 1) - 1, 2 ** 31, 2 ** 31 + 1, LARGEST - 1, LARGEST)


class WhoTest(unittest.TestCase):
    def test_bits_that_are_not_as_told_are_refused(self):
        for n in range(2, 11):
            for m in bits_not_as_told(n):
                with self.subTest(n=n, m=m):
                    self.assertEqual(ask(("start", n), ("who", m)), [0, -22])

    def test_when_nobody_owes_the_first_who_rides_has_the_turn(self):
        self.assertEqual(
            ask(("start", 4), ("who", 15), ("who", 14), ("who", 12), ("who", 10), ("who", 8), ("who", 1)),
            [0, 0, 1, 2, 1, 3, 0],
        )

    def test_who_owes_most_has_the_turn(self):
        # Parts owed after these days: 0: -420, 1: -420, 2: 840.
        days = [("start", 3), ("ride_by", 7, 0), ("ride_by", 3, 1)]
        self.assertEqual(ask_after(days, ("who", 7), ("who", 6), ("who", 5), ("who", 4)), [2, 2, 2, 2])

    def test_of_like_ones_the_first_has_the_turn(self):
        # Parts owed after this day: 0: 630, 1: 630, 2: -1890, 3: 630.
        days = [("start", 4), ("ride_by", 15, 2)]
        self.assertEqual(
            ask_after(days, ("who", 15), ("who", 14), ("who", 12), ("who", 10), ("who", 4)),
            [0, 1, 3, 1, 2],
        )

    def test_only_those_who_ride_have_the_turn(self):
        # Person 3 owes most, but has no turn on a day without them.
        days = [("start", 4), ("ride_by", 9, 0), ("ride_by", 9, 0)]
        self.assertEqual(ask_after(days, ("who", 15), ("who", 7), ("who", 1)), [3, 1, 0])

    def test_how_many_rode_decides_the_share(self):
        # A half of a drive (person 2) is more than a third (persons 1 and 3).
        days = [("start", 4), ("ride_by", 11, 0), ("ride_by", 5, 0)]
        self.assertEqual(ask_after(days, ("who", 15), ("who", 11)), [2, 1])
        # Three fourths (persons 2 and 3) are more than two thirds (person 4), and less than a whole (person 5).
        days = [("start", 6)] + [("ride_by", 15, 0)] * 3 + [("ride_by", 19, 1)] * 2 + [("ride_by", 33, 0)] * 2
        self.assertEqual(ask_after(days, ("who", 63), ("who", 31), ("who", 19)), [5, 2, 4])

    def test_a_difference_of_few_parts_counts(self):
        # Eight ninths of a drive are 2,240 parts, seven eighths 2,205; nine ninths are eight eighths.
        ninth_of_2 = ("ride_by", 1023 - 2, 0)
        eighth_of_1 = ("ride_by", 511 - 4, 0)
        days = [("start", 10)] + [ninth_of_2] * 8 + [eighth_of_1] * 7
        self.assertEqual(
            ask_after(days, ("who", 6), eighth_of_1, ("who", 6), ninth_of_2, ("who", 6), ninth_of_2, ("who", 6)),
            [2, 15, 1, 16, 1, 17, 2],
        )

    def test_shares_of_every_size_make_up_a_whole_drive(self):
        # So many days of as many riders are a drive each: persons 1 and 2 owe alike, and 1 comes first.
        for many in range(2, 10):
            for others in range(2, 10):
                with self.subTest(many=many, others=others):
                    without_2 = [("ride_by", 2 ** (many + 1) - 1 - 4, 0)] * many
                    without_1 = [("ride_by", 2 ** (others + 1) - 1 - 2, 0)] * others
                    days = [("start", 10)] + without_2 + without_1
                    self.assertEqual(ask_after(days, ("who", 6), ("ride", 6), ("ride", 6)), [1, 1, 2])

    def test_who_changes_nothing(self):
        self.assertEqual(
            ask(("start", 2), ("who", 3), ("who", 3), ("who", 3), ("ride_by", 3, 0), ("who", 3), ("who", 3), ("ride", 3)),
            [0, 0, 0, 0, 0, 1, 1, 1],
        )

    def test_who_is_answered_when_there_are_1000_days(self):
        days = [("start", 2)] + [("ride_by", 3, 0)] * 1000
        self.assertEqual(ask_after(days, ("who", 3), ("who", 1), ("who", 0), ("who", 4)), [1, 0, -22, -22])


class RideTest(unittest.TestCase):
    def test_bits_that_are_not_as_told_are_refused(self):
        for n in range(2, 11):
            for m in bits_not_as_told(n):
                with self.subTest(n=n, m=m):
                    self.assertEqual(ask(("start", n), ("ride", m)), [0, -22])

    def test_whose_turn_it_was_drives(self):
        # Parts owed by 0, 1 and 2 behind each day:
        # -1680, 840, 840;  -1680, -420, 2100;  -420, -420, 840;  -1680, 840, 840;  -420, 840, -420.
        self.assertEqual(
            ask(("start", 3), ("ride", 7), ("ride", 6), ("ride", 5), ("ride", 3), ("ride", 5), ("ride", 7)),
            [0, 0, 1, 2, 0, 2, 1],
        )

    def test_who_and_ride_agree(self):
        calls = [("start", 5)]
        for m in (31, 7, 28, 17, 21, 10, 31, 6, 24, 3, 31, 31):
            calls += [("who", m), ("ride", m)]
        given = ask(*calls)
        self.assertEqual(given[1::2], given[2::2])

    def test_there_is_a_day_more(self):
        self.assertEqual(
            ask(("start", 2), ("ride", 3), ("ride", 2), ("ride_by", 3, 1), ("ride", 3), ("ride_by", 1, 0)),
            [0, 0, 1, 2, 0, 4],
        )

    def test_the_same_riders_take_turns(self):
        for n in range(2, 11):
            with self.subTest(n=n):
                rides = [("ride", 2 ** n - 1)] * (3 * n)
                self.assertEqual(ask(("start", n), *rides), [0] + list(range(n)) * 3)

    def test_the_1000th_day_is_taken_and_the_next_refused(self):
        days = [("start", 2)] + [("ride", 3)] * 999
        self.assertEqual(ask_after(days, ("ride", 3), ("ride", 3), ("ride", 1)), [1, -28, -28])

    def test_at_1000_days_the_refusal_told_first_is_answered(self):
        days = [("start", 3)] + [("ride", 7)] * 1000
        for m in bits_not_as_told(3):
            with self.subTest(m=m):
                self.assertEqual(ask_after(days, ("ride", m), ("ride", 7)), [-22, -28])


if __name__ == "__main__":
    unittest.main()
