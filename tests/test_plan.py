"""Point 7: plan."""

import unittest
from itertools import product

from lines import Dice, ask, ask_after, fair_bounds, fair_ways, people_of, slow_plan, state_of

MOST_PLANS_OF_A_LINE = 1999


def plans(n, lists):
    """What plan answers for each list of days, with n people; as few lines as may be."""
    given = []
    for place in range(0, len(lists), MOST_PLANS_OF_A_LINE):
        asked = [("plan", days) for days in lists[place:place + MOST_PLANS_OF_A_LINE]]
        given.extend(ask_after([("start", n)], *asked))
    return given


class RefusedPlanTest(unittest.TestCase):
    def test_more_than_7_days_are_refused(self):
        for n in range(2, 11):
            for many in range(8, 21):
                with self.subTest(n=n, many=many):
                    self.assertEqual(plans(n, [[1] * many, [2 ** n - 1] * many]), [[-22], [-22]])

    def test_7_days_are_not_too_many(self):
        for n in range(2, 11):
            with self.subTest(n=n):
                self.assertEqual(plans(n, [[1] * 7, [2] * 7]), [[7] + [0] * 7, [7] + [1] * 7])

    def test_a_day_on_which_nobody_rides_is_refused(self):
        for many in range(1, 8):
            for place in range(many):
                with self.subTest(many=many, place=place):
                    days = [3] * many
                    days[place] = 0
                    self.assertEqual(plans(2, [days, [0] * many]), [[-22], [-22]])

    def test_a_day_on_which_somebody_rides_that_there_is_not_is_refused(self):
        for n in range(2, 11):
            for m in (2 ** n, 2 ** n + 1, 2 ** (n + 1) - 1, 32768, 32769, 65535):
                for place in range(4):
                    with self.subTest(n=n, m=m, place=place):
                        days = [2 ** n - 1] * 4
                        days[place] = m
                        self.assertEqual(plans(n, [days, [m], [1] * 6 + [m]]), [[-22]] * 3)

    def test_too_many_days_that_are_not_as_told_are_refused(self):
        self.assertEqual(plans(3, [[0] * 8, [65535] * 20, [8] * 20, [7] * 7 + [0]]), [[-22]] * 4)

    def test_after_a_new_start_its_own_people_are_asked(self):
        self.assertEqual(
            ask(("start", 3), ("plan", [4]), ("start", 2), ("plan", [4]), ("start", 1), ("plan", [4]), ("plan", [2])),
            [0, [1, 2], 0, [-22], -22, [-22], [1, 1]],
        )


class PlanTest(unittest.TestCase):
    def test_no_days(self):
        for n in range(2, 11):
            with self.subTest(n=n):
                self.assertEqual(plans(n, [[]]), [[0]])
        self.assertEqual(ask(("start", 2), ("ride", 3), ("plan", []), ("plan", []), ("back",)), [0, 0, [0], [0], 0])

    def test_of_one_day_the_first_who_rides_drives(self):
        self.assertEqual(
            plans(10, [[m] for m in range(1, 1024)]),
            [[1, people_of(m)[0]] for m in range(1, 1024)],
        )

    def test_days_on_which_the_same_two_ride(self):
        self.assertEqual(
            plans(2, [[3] * many for many in range(8)]),
            [
                [0], [1, 0], [2, 0, 1], [3, 0, 0, 1], [4, 0, 0, 1, 1], [5, 0, 0, 0, 1, 1], [6, 0, 0, 0, 1, 1, 1],
                [7, 0, 0, 0, 0, 1, 1, 1],
            ],
        )
        self.assertEqual(plans(10, [[520] * 4, [520] * 5]), [[4, 3, 3, 9, 9], [5, 3, 3, 3, 9, 9]])

    def test_days_on_which_all_ride(self):
        # 7 days of 10: nobody drives twice. 7 days of 3: 7 thirds are 2 drives or 3, and 0 may have the 3.
        self.assertEqual(plans(10, [[1023] * 7]), [[7, 0, 1, 2, 3, 4, 5, 6]])
        self.assertEqual(plans(7, [[127] * 7]), [[7, 0, 1, 2, 3, 4, 5, 6]])
        self.assertEqual(plans(3, [[7] * 7]), [[7, 0, 0, 0, 1, 1, 2, 2]])

    def test_who_always_rides_alone_always_drives(self):
        self.assertEqual(plans(5, [[16] * 7, [1, 2, 4, 8, 16, 8, 4]]), [[7] + [4] * 7, [7, 0, 1, 2, 3, 4, 3, 2]])

    def test_the_first_who_rides_must_not_drive_since_another_day_is_theirs_alone(self):
        # Person 0 ought to drive 2 of them, or 1 and five sixths; the last day is theirs in any case.
        self.assertEqual(plans(3, [[3, 3, 1], [3, 7, 1], [3, 5, 1]]), [[3, 0, 1, 0], [3, 0, 1, 0], [3, 0, 2, 0]])

    def test_the_first_who_rides_must_not_drive_since_another_must(self):
        # Person 2 ought to drive once, so on the second day 1 mustn't, though half a drive is theirs too.
        self.assertEqual(plans(3, [[5, 6], [6, 5], [1, 6, 5]]), [[2, 0, 2], [2, 1, 2], [3, 0, 1, 2]])

    def test_both_bounds_together(self):
        self.assertEqual(
            plans(4, [[3, 3, 13, 5], [5, 5, 11, 3], [5, 6, 9, 1], [5, 6, 11]]),
            [[4, 0, 1, 0, 2], [4, 0, 2, 0, 1], [4, 0, 2, 3, 0], [3, 0, 2, 1]],
        )

    def test_the_order_of_the_days_counts(self):
        self.assertEqual(plans(3, [[3, 6, 5], [5, 6, 3], [6, 3, 5]]), [[3, 0, 1, 2], [3, 0, 2, 1], [3, 1, 0, 2]])

    def test_days_that_there_were_do_not_count(self):
        lists = [[7, 7, 7], [3, 6, 5, 7], [15] * 7, [12, 3, 3], [], [9, 9, 1]]
        asked = [("plan", days) for days in lists]
        rides = [("ride_by", 15, 0), ("ride", 7), ("ride_by", 3, 0), ("back",), ("ride_by", 9, 0), ("ride_by", 1, 0)]
        expected = ask_after([("start", 4)], *asked)
        self.assertEqual(expected, [slow_plan(days) for days in lists])
        for many in range(len(rides) + 1):
            with self.subTest(many=many):
                self.assertEqual(ask_after([("start", 4)] + rides[:many], *asked), expected)

    def test_it_is_answered_when_there_are_1000_days(self):
        days = [("start", 3)] + [("ride_by", 7, 0)] * 1000
        self.assertEqual(
            ask_after(days, ("plan", [7, 7, 7]), ("ride", 7), ("plan", [7] * 8), ("back",)),
            [[3, 0, 1, 2], -28, [-22], 0],
        )

    def test_it_changes_nothing(self):
        for before in ([("start", 3)], [("start", 3), ("ride", 7), ("ride_by", 6, 2), ("ride", 5)]):
            behind = state_of(3) + [("ride_by", 7, 1), ("ride", 7), ("back",), ("back",), ("back",)]
            expected = ask_after(before, *behind)
            for days in ([], [7], [7] * 7, [3, 5, 6, 1], [7] * 8, [1] * 20, [0], [8], [7, 7, 65535]):
                with self.subTest(before=before, days=days):
                    self.assertEqual(ask_after(before, ("plan", days), *behind)[1:], expected)

    def test_it_is_asked_again_and_again(self):
        asked = [("plan", [1023] * 7)] * MOST_PLANS_OF_A_LINE
        self.assertEqual(ask(("start", 10), *asked), [0] + [[7, 0, 1, 2, 3, 4, 5, 6]] * MOST_PLANS_OF_A_LINE)


class AgainstAllWaysTest(unittest.TestCase):
    def check(self, n, lists):
        for days, given in zip(lists, plans(n, lists), strict=True):
            self.assertEqual(given, slow_plan(days), (n, days))

    def all_lists(self, n, most):
        return [list(days) for many in range(most + 1) for days in product(range(1, 2 ** n), repeat=many)]

    def thrown_list(self, dice, n, many):
        """Days of one sort: anybody, many, few, or some kinds of days that come again."""
        sort = dice.below(4)
        days = []
        for turn in range(many):
            m = dice.below(2 ** n)
            if sort == 1:
                m |= dice.below(2 ** n)
            if sort == 2:
                m &= dice.below(2 ** n)
            if sort == 3 and days and dice.below(2):
                m = dice.one_of(days)
            days.append(m or 2 ** dice.below(n))
        return days

    def test_every_list_of_days_of_2_people(self):
        self.check(2, self.all_lists(2, 7))

    def test_every_list_of_up_to_4_days_of_3_people(self):
        self.check(3, self.all_lists(3, 4))

    def test_every_list_of_up_to_3_days_of_4_people(self):
        self.check(4, self.all_lists(4, 3))

    def test_thrown_lists_of_2_to_10_people(self):
        for n in range(2, 11):
            with self.subTest(n=n):
                dice = Dice(700 + n)
                self.check(n, [self.thrown_list(dice, n, dice.below(8)) for turn in range(400)])

    def test_thrown_lists_of_7_days(self):
        for n in range(3, 11):
            with self.subTest(n=n):
                dice = Dice(800 + n)
                self.check(n, [self.thrown_list(dice, n, 7) for turn in range(250)])

    def test_7_days_on_which_many_ride(self):
        # Each day all or all but one or two; the last days few, who then must have drives left.
        for n in (8, 9, 10):
            with self.subTest(n=n):
                dice = Dice(900 + n)
                lists = [[2 ** n - 1] * 7]
                for turn in range(12):
                    days = [(2 ** n - 1) & ~(2 ** dice.below(n)) & ~(2 ** dice.below(n)) for day in range(7)]
                    for place in range(7 - dice.below(4), 7):
                        days[place] = dice.one_of((1, 2, 3, 5, 6, 7))
                    lists.append(days)
                self.check(n, lists)

    def test_no_way_of_all_that_are_fair_is_lesser(self):
        # All fair ways are listed here, and their order is not relied upon.
        for n in (3, 4, 5):
            dice = Dice(950 + n)
            lists = [self.thrown_list(dice, n, 1 + dice.below(5)) for turn in range(150)]
            for days, given in zip(lists, plans(n, lists), strict=True):
                self.assertEqual(given, [len(days)] + min(fair_ways(days)), (n, days))

    def test_each_plan_of_many_lists_is_fair(self):
        for n in range(2, 11):
            dice = Dice(990 + n)
            lists = [self.thrown_list(dice, n, dice.below(8)) for turn in range(300)]
            for days, (many, *drivers) in zip(lists, plans(n, lists), strict=True):
                riders = [people_of(m) for m in days]
                self.assertEqual((many, len(drivers)), (len(days), len(days)))
                for riding, driver in zip(riders, drivers, strict=True):
                    self.assertIn(driver, riding)
                for k in range(n):
                    least, most = fair_bounds(riders, k)
                    self.assertTrue(least <= drivers.count(k) <= most, (n, days, drivers))


if __name__ == "__main__":
    unittest.main()
