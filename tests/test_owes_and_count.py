"""Points 5 and 6: owes and count."""

import unittest

from lines import LARGEST, ask, ask_after

SHARES = ((1, 2520), (2, 1260), (3, 840), (4, 630), (5, 504), (6, 420), (7, 360), (8, 315), (9, 280), (10, 252))


def people_that_are_not_there(n):
    return (n, n + 1, n + 30, 31, 32, 33, 65536, 2 ** 31, LARGEST - 1, LARGEST)


class OwesTest(unittest.TestCase):
    def test_a_person_that_there_is_not_is_refused(self):
        for n in range(2, 11):
            for days in ([], [("ride", 3)]):
                for k in people_that_are_not_there(n):
                    with self.subTest(n=n, k=k, days=days):
                        self.assertEqual(ask_after([("start", n)] + days, ("owes", k)), [[-2]])

    def test_without_days_nobody_owes(self):
        for n in range(2, 11):
            with self.subTest(n=n):
                self.assertEqual(ask_after([("start", n)], *[("owes", k) for k in range(n)]), [[0, 0]] * n)

    def test_who_rode_owes_and_who_drove_is_ahead(self):
        self.assertEqual(
            ask_after([("start", 4), ("ride_by", 7, 1)], *[("owes", k) for k in range(4)]),
            [[0, 840], [1, 1680], [0, 840], [0, 0]],
        )

    def test_how_many_rode_decides_the_parts(self):
        for many, share in SHARES:
            with self.subTest(many=many):
                owed = ask_after([("start", 10), ("ride", 2 ** many - 1)], *[("owes", k) for k in range(10)])
                driver = [1, 2520 - share] if many > 1 else [0, 0]
                self.assertEqual(owed, [driver] + [[0, share]] * (many - 1) + [[0, 0]] * (10 - many))

    def test_parts_of_all_days_are_added_up(self):
        # 0: 840 + 1260 + 1260 - 5040; 1: 840 + 1260 - 2520; 2: 840; 3: 2520 + 1260 - 2520.
        days = [("start", 4), ("ride_by", 7, 0), ("ride_by", 3, 1), ("ride_by", 8, 3), ("ride_by", 9, 0)]
        self.assertEqual(
            ask_after(days, *[("owes", k) for k in range(5)]),
            [[1, 1680], [1, 420], [0, 840], [0, 1260], [-2]],
        )

    def test_one_part_owed_or_ahead(self):
        # Person 0 rides on all these days, and drives on the first two: 2 drives are 5,040 parts.
        for tens, nines, eights, sevens, ought, owed in ((3, 1, 7, 5, 5041, [0, 1]), (2, 8, 5, 2, 5039, [1, 1])):
            with self.subTest(ought=ought):
                bits = [1023] * tens + [511] * nines + [255] * eights + [127] * sevens
                days = [("ride_by", m, 0) for m in bits[:2]] + [("ride_by", m, 1) for m in bits[2:]]
                self.assertEqual(
                    ask_after([("start", 10)] + days, ("owes", 0), ("count", 0)),
                    [owed, [2, len(bits), ought]],
                )

    def test_even_again_nobody_owes(self):
        days = [("start", 3), ("ride_by", 7, 2), ("ride_by", 7, 0)]
        self.assertEqual(
            ask_after(days, ("owes", 0), ("owes", 1), ("owes", 2), ("ride", 7), ("owes", 0), ("owes", 1), ("owes", 2)),
            [[1, 840], [0, 1680], [1, 840], 1, [0, 0], [0, 0], [0, 0]],
        )

    def test_a_whole_drive_owed_or_ahead(self):
        days = [("start", 2), ("ride_by", 3, 1), ("ride_by", 3, 1)]
        self.assertEqual(ask_after(days, ("owes", 0), ("owes", 1)), [[0, 2520], [1, 2520]])

    def test_days_that_were_taken_back_are_not_owed(self):
        days = [("start", 3), ("ride_by", 7, 0), ("ride_by", 6, 1), ("back",)]
        self.assertEqual(ask_after(days, *[("owes", k) for k in range(3)]), [[1, 1680], [0, 840], [0, 840]])

    def test_of_a_new_start_its_own_people_are_asked(self):
        self.assertEqual(
            ask(("start", 5), ("ride", 31), ("owes", 4), ("start", 3), ("owes", 4), ("owes", 3), ("owes", 2), ("owes", 0)),
            [0, 0, [0, 504], 0, [-2], [-2], [0, 0], [0, 0]],
        )

    def test_after_a_refused_start_the_same_is_owed(self):
        self.assertEqual(
            ask(("start", 5), ("ride", 31), ("start", 11), ("owes", 4), ("owes", 0), ("owes", 5)),
            [0, 0, -22, [0, 504], [1, 2016], [-2]],
        )

    def test_1000_days_on_which_one_always_drives(self):
        days = [("start", 10)] + [("ride_by", 1023, 7)] * 1000
        self.assertEqual(ask_after(days, ("owes", 7), ("owes", 0), ("owes", 10)), [[1, 2268000], [0, 252000], [-2]])


class CountTest(unittest.TestCase):
    def test_a_person_that_there_is_not_is_refused(self):
        for n in range(2, 11):
            for days in ([], [("ride", 3)]):
                for k in people_that_are_not_there(n):
                    with self.subTest(n=n, k=k, days=days):
                        self.assertEqual(ask_after([("start", n)] + days, ("count", k)), [[-2]])

    def test_without_days_all_is_nothing(self):
        for n in range(2, 11):
            with self.subTest(n=n):
                self.assertEqual(ask_after([("start", n)], *[("count", k) for k in range(n)]), [[0, 0, 0]] * n)

    def test_drove_rode_and_ought(self):
        days = [("start", 4), ("ride_by", 7, 0), ("ride_by", 3, 1), ("ride_by", 8, 3), ("ride_by", 9, 0)]
        self.assertEqual(
            ask_after(days, *[("count", k) for k in range(5)]),
            [[2, 3, 3360], [1, 2, 2100], [0, 1, 840], [1, 2, 3780], [-2]],
        )

    def test_days_of_ride_count_like_those_of_ride_by(self):
        self.assertEqual(
            ask_after([("start", 3)] + [("ride", 7)] * 4 + [("ride", 2)], *[("count", k) for k in range(3)]),
            [[2, 4, 3360], [2, 5, 5880], [1, 4, 3360]],
        )

    def test_how_many_rode_decides_the_parts(self):
        for many, share in SHARES:
            with self.subTest(many=many):
                counted = ask_after([("start", 10), ("ride", 2 ** many - 1)], *[("count", k) for k in range(10)])
                self.assertEqual(
                    counted, [[1, 1, share]] + [[0, 1, share]] * (many - 1) + [[0, 0, 0]] * (10 - many)
                )

    def test_days_that_were_taken_back_do_not_count(self):
        days = [("start", 3), ("ride_by", 7, 0), ("ride_by", 6, 1), ("ride_by", 6, 2), ("back",), ("back",)]
        self.assertEqual(
            ask_after(days, *[("count", k) for k in range(3)]),
            [[1, 1, 840], [0, 1, 840], [0, 1, 840]],
        )

    def test_refused_days_do_not_count(self):
        refused = [("ride", 0), ("ride", 8), ("ride_by", 7, 3), ("ride_by", 6, 0), ("ride_by", 15, 0)]
        days = [("start", 3), ("ride_by", 6, 1)]
        self.assertEqual(
            ask_after(days + refused, *[("count", k) for k in range(3)]),
            [[0, 0, 0], [1, 1, 1260], [0, 1, 1260]],
        )

    def test_days_that_are_only_planned_do_not_count(self):
        days = [("start", 3), ("plan", [7, 7, 7]), ("who", 7)]
        self.assertEqual(ask_after(days, *[("count", k) for k in range(3)]), [[0, 0, 0]] * 3)

    def test_of_a_new_start_its_own_days_are_counted(self):
        self.assertEqual(
            ask(("start", 3), ("ride", 7), ("start", 2), ("count", 0), ("count", 2), ("ride", 3), ("count", 0)),
            [0, 0, 0, [0, 0, 0], [-2], 0, [1, 1, 1260]],
        )

    def test_1000_days(self):
        days = [("start", 10)] + [("ride_by", 1023, 7)] * 500 + [("ride_by", 128, 7)] * 500
        # The day behind the 1,000th is refused, and doesn't count.
        self.assertEqual(
            ask_after(days, ("ride", 1023), ("count", 7), ("count", 0), ("count", 10)),
            [-28, [1000, 1000, 1386000], [0, 500, 126000], [-2]],
        )


if __name__ == "__main__":
    unittest.main()
