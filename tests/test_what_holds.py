"""Point 8: what holds over the whole program."""

import unittest

from lines import Dice, ask_after, people_of, state_of

MANY_DAYS = 40


def signed(owed):
    """What owes answered as one number: below 0 for somebody who is ahead."""
    ahead, parts = owed
    if ahead not in (0, 1) or parts < 0 or (ahead == 1 and parts == 0):
        raise AssertionError(f"not what owes answers: {owed}")
    return -parts if ahead else parts


class WhatHoldsTest(unittest.TestCase):
    def thrown_days(self, n, seed, names):
        dice = Dice(seed)
        days = []
        for turn in range(MANY_DAYS):
            m = 1 + dice.below(2 ** n - 1)
            name = dice.one_of(names)
            days.append((name, m) if name == "ride" else (name, m, dice.one_of(people_of(m))))
        return days

    def owed_round_days(self, n, days):
        """What each day answered, and what all owed ahead of the first and behind each of them."""
        everybody = [("owes", k) for k in range(n)]
        given = ask_after([("start", n)], *everybody, *[call for day in days for call in [day] + everybody])
        owed = [[signed(answer) for answer in given[place:place + n]] for place in range(0, len(given), n + 1)]
        return given[n::n + 1], owed

    def test_what_all_owe_together_is_nothing(self):
        for n in range(2, 11):
            with self.subTest(n=n):
                answered, owed = self.owed_round_days(n, self.thrown_days(n, n, ("ride", "ride_by")))
                self.assertEqual([sum(all_owe) for all_owe in owed], [0] * (MANY_DAYS + 1))
                self.assertNotEqual(owed[-1], [0] * n)

    def test_who_drives_rides_and_nobody_who_rides_owes_more(self):
        for n in range(2, 11):
            with self.subTest(n=n):
                days = self.thrown_days(n, 20 + n, ("ride", "ride", "ride_by"))
                answered, owed = self.owed_round_days(n, days)
                for day, driver, before in zip(days, answered, owed):
                    if day[0] == "ride":
                        riding = people_of(day[1])
                        self.assertIn(driver, riding)
                        self.assertEqual(before[driver], max(before[k] for k in riding))

    def test_who_does_not_ride_owes_as_before(self):
        for n in range(2, 11):
            with self.subTest(n=n):
                days = self.thrown_days(n, 40 + n, ("ride", "ride_by"))
                answered, owed = self.owed_round_days(n, days)
                for day, before, after in zip(days, owed, owed[1:]):
                    for k in range(n):
                        if k not in people_of(day[1]):
                            self.assertEqual(after[k], before[k])

    def test_who_rides_owes_a_share_more_and_who_drives_a_drive_less(self):
        for n in range(2, 11):
            with self.subTest(n=n):
                days = self.thrown_days(n, 60 + n, ("ride_by",))
                answered, owed = self.owed_round_days(n, days)
                for (name, m, drove), before, after in zip(days, owed, owed[1:]):
                    riding = people_of(m)
                    for k in riding:
                        self.assertEqual(len(riding) * (after[k] - before[k] + 2520 * (k == drove)), 2520)

    def test_if_always_the_same_ride_nobody_is_ever_a_whole_drive_behind_or_ahead(self):
        for n in range(2, 11):
            for m in (2 ** n - 1, 2 ** n - 2, 2 ** (n - 1), 1 + 2 ** (n - 1)):
                with self.subTest(n=n, m=m):
                    answered, owed = self.owed_round_days(n, [("ride", m)] * MANY_DAYS)
                    self.assertLess(max(abs(parts) for all_owe in owed for parts in all_owe), 2520)
                    # After as many days as ride, all are even again.
                    together = len(people_of(m))
                    self.assertEqual(owed[::together], [[0] * n] * (1 + MANY_DAYS // together))

    def test_there_is_always_a_plan(self):
        for n in range(2, 11):
            with self.subTest(n=n):
                dice = Dice(80 + n)
                lists = [[1 + dice.below(2 ** n - 1) for day in range(dice.below(8))] for turn in range(500)]
                given = ask_after([("start", n)], *[("plan", days) for days in lists])
                self.assertEqual([answer[0] for answer in given], [len(days) for days in lists])
                self.assertEqual([len(answer) for answer in given], [1 + len(days) for days in lists])

    def test_a_day_taken_back_leaves_all_as_it_was(self):
        for n in (2, 3, 5):
            with self.subTest(n=n):
                days = self.thrown_days(n, 100 + n, ("ride", "ride_by"))[:12]
                state = state_of(n) + [("plan", [2 ** n - 1] * 3)]
                for many in range(len(days)):
                    calls = state + [days[many], ("back",)] + state
                    given = ask_after([("start", n)] + days[:many], *calls)
                    self.assertEqual(given[:len(state)], given[len(state) + 2:])


if __name__ == "__main__":
    unittest.main()
