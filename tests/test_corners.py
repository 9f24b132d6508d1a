"""The corners that the document names, and many lines against the slow way."""

import unittest

from drivesfair.pool import answers
from lines import LARGEST, NUMBER_OF, Dice, ask, ask_after, flat, slow_ask


class CornerTest(unittest.TestCase):
    def test_one_rides_alone(self):
        # Who rides alone drives, and owes as before.
        for k in range(4):
            with self.subTest(k=k):
                alone = [("ride", 2 ** k), ("ride_by", 2 ** k, k)] * 3
                self.assertEqual(
                    ask_after([("start", 4)] + alone, ("who", 2 ** k), *[("ride", 15)] * 5),
                    [k, 0, 1, 2, 3, 0],
                )
                # Parts owed ahead of the lone days: 0: 630, 1: -1890, 2: 630, 3: 630.
                self.assertEqual(
                    ask_after([("start", 4), ("ride_by", 15, 1)] + alone, *[("ride", 15)] * 4),
                    [0, 2, 3, 0],
                )
                self.assertEqual(
                    ask_after([("start", 4)] + alone, ("owes", k), ("count", k), ("plan", [2 ** k] * 3), ("back",)),
                    [[0, 0], [6, 6, 15120], [3, k, k, k], k],
                )

    def test_all_ten(self):
        rides = [("ride", 1023)] * 25
        self.assertEqual(ask(("start", 10), *rides), [0] + (list(range(10)) * 3)[:25])
        self.assertEqual(
            ask(("start", 10), ("ride", 512), ("ride_by", 1023, 9), ("who", 1023), ("ride", 1024), ("ride", 1023)),
            [0, 9, 1, 0, -22, 0],
        )
        self.assertEqual(
            ask_after(
                [("start", 10)] + rides, ("owes", 4), ("owes", 5), ("count", 4), ("count", 9), ("plan", [1023] * 7),
                ("back",), ("owes", 4),
            ),
            [[1, 1260], [0, 1260], [3, 25, 6300], [2, 25, 6300], [7, 0, 1, 2, 3, 4, 5, 6], 4, [0, 1008]],
        )

    def test_all_owe_alike(self):
        # Each of three drove once: all owe nothing again, and the first has the turn.
        days = [("start", 3), ("ride_by", 7, 2), ("ride_by", 7, 0), ("ride_by", 7, 1)]
        self.assertEqual(
            ask_after(days, ("who", 7), ("who", 6), ("who", 5), ("who", 4), ("ride", 7), ("ride", 7), ("ride", 7)),
            [0, 1, 0, 2, 0, 1, 2],
        )
        self.assertEqual(ask_after(days, *[("owes", k) for k in range(3)]), [[0, 0]] * 3)

    def test_somebody_who_always_drives(self):
        days = [("start", 3)] + [("ride_by", 7, 0)] * 3
        self.assertEqual(ask_after(days, *[("ride", 7)] * 8), [1, 2, 1, 2, 1, 2, 0, 1])
        self.assertEqual(
            ask_after(days, ("owes", 0), ("owes", 1), ("count", 0), ("count", 2), ("plan", [7, 7]), ("back",)),
            [[1, 5040], [0, 2520], [3, 3, 2520], [0, 3, 2520], [2, 0, 1], 0],
        )

    def test_somebody_who_always_drives_for_500_days(self):
        # 500 days of ten put person 0 450 drives ahead and each other 50 behind: the nine take turns.
        days = [("start", 10)] + [("ride_by", 1023, 0)] * 500
        given = ask_after(days, *[("ride", 1023)] * 450, ("who", 1), ("who", 1023))
        self.assertEqual(given, list(range(1, 10)) * 50 + [0, 1])

    def test_1000_days(self):
        before = [("start", 7)] + [("ride", 127)] * 1000
        self.assertEqual(ask(*before), [0] + [day % 7 for day in range(1000)])
        # A refused start leaves the 1,000 days; one that is taken makes room again.
        self.assertEqual(
            ask_after(before, ("start", 1), ("ride", 127), ("who", 127), ("start", 7), ("ride_by", 127, 3), ("ride", 127)),
            [-22, -28, 6, 0, 0, 0],
        )
        # 1000 days are 142 rounds of seven and six days more, so person 6 still owes those six shares.
        self.assertEqual(
            ask_after(before, ("owes", 6), ("owes", 0), ("count", 6), ("count", 0), ("plan", [127, 64]), ("back",), ("ride", 32)),
            [[0, 2160], [1, 360], [142, 1000, 360000], [143, 1000, 360000], [2, 0, 6], 5, 5],
        )

    def test_no_days_to_be_planned(self):
        self.assertEqual(answers([0, 2, 7, 0, 7, 0, 1, 3, 7, 0]), [1, 0, 1, 0, 1, 0, 1, 0, 1, 0])

    def test_planned_days_on_which_the_same_two_ride(self):
        self.assertEqual(
            ask(("start", 6), ("plan", [34] * 2), ("plan", [34] * 3), ("plan", [34] * 7)),
            [0, [2, 1, 5], [3, 1, 1, 5], [7, 1, 1, 1, 1, 5, 5, 5]],
        )

    def test_a_plan_in_which_the_first_who_rides_must_not_drive(self):
        # Person 0 drives on the last day in any case, and ought to drive 2 of the three.
        self.assertEqual(ask(("start", 2), ("plan", [3, 3, 1])), [0, [3, 0, 1, 0]])
        # Person 2 ought to drive once, and can't on the first day, which the lesser one has.
        self.assertEqual(ask(("start", 3), ("plan", [5, 6])), [0, [2, 0, 2]])


class ManyLinesTest(unittest.TestCase):
    def thrown_call(self, dice, n, names):
        """One call on n people, of the names that are told; mostly one that is taken."""
        name = dice.one_of(names)
        m = dice.one_of((dice.below(2 ** n), dice.below(2 ** n), 2 ** n - 1, 2 ** dice.below(n + 1)))
        m = m if dice.below(40) else dice.one_of((0, 2 ** n, LARGEST, dice.below(LARGEST)))
        k = dice.one_of((dice.below(n), dice.below(n), dice.below(n + 2)))
        k = k if dice.below(40) else dice.one_of((n, LARGEST, dice.below(LARGEST)))
        if name == "start":
            return name, dice.below(13)
        if name == "ride_by":
            return name, m, k
        if name == "plan":
            many = dice.below(8) if dice.below(10) else dice.below(21)
            bad = dice.below(12) == 0
            return name, [dice.below(65536) if bad else 1 + dice.below(2 ** n - 1) for day in range(many)]
        return (name,) if name == "back" else (name, k if name in ("owes", "count") else m)

    def line(self, dice, length, names):
        """A line with a start that is taken first, and seldom another one."""
        n = 2 + dice.below(9)
        calls = [("start", n)]
        while len(calls) < length:
            calls.append(self.thrown_call(dice, n, names if dice.below(80) else ("start",)))
            if calls[-1][0] == "start" and 2 <= calls[-1][1] <= 10:
                n = calls[-1][1]
        return calls

    def test_many_lines_of_days(self):
        for seed in range(120):
            with self.subTest(seed=seed):
                calls = self.line(Dice(seed), 60, ("who", "ride", "ride", "ride_by"))
                self.assertEqual(ask(*calls), slow_ask(*calls))

    def test_many_lines_of_all_calls(self):
        names = ("who", "ride", "ride", "ride_by", "ride_by", "back", "owes", "count", "plan")
        for seed in range(200):
            with self.subTest(seed=seed):
                calls = self.line(Dice(5000 + seed), 60, names)
                self.assertEqual(ask(*calls), slow_ask(*calls))

    def test_lines_of_2000_calls(self):
        names = ("who", "ride", "ride", "ride_by", "ride_by", "back", "back", "owes", "count", "plan")
        for seed in range(3):
            with self.subTest(seed=seed):
                calls = self.line(Dice(9000 + seed), 2000, names)
                self.assertEqual({name for name, *rest in calls}, set(NUMBER_OF))
                self.assertLessEqual(len(flat(calls)), 30000)
                self.assertEqual(ask(*calls), slow_ask(*calls))

    def test_back_and_forth_at_1000_days(self):
        dice = Dice(77)
        before = [("start", 4)] + [("ride", 15)] * 990
        names = ("ride", "ride", "ride_by", "ride_by", "back", "back", "owes", "count", "who")
        behind = [self.thrown_call(dice, 4, names) for turn in range(250)]
        given = ask(*before, *behind)
        self.assertIn(-28, given)
        self.assertEqual(given, slow_ask(*before, *behind))

    def test_nobody_who_rides_owes_more_than_who_drives(self):
        # Riders of changing number: shares of halves to tenths are added up and compared.
        for n in range(2, 11):
            with self.subTest(n=n):
                dice = Dice(1000 + n)
                calls = [("start", n)] + [("ride", 1 + dice.below(2 ** n - 1)) for day in range(150)]
                self.assertEqual(ask(*calls), slow_ask(*calls))


if __name__ == "__main__":
    unittest.main()
