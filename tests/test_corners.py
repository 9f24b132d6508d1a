"""The corners that the document names, and many lines against the slow way."""

import unittest

from lines import LARGEST, Dice, ask, ask_after, slow_ask


class CornerTest(unittest.TestCase):
    def test_one_rides_alone(self):
        # Who rides alone drives, and owes as before.
        for k in range(4):
            with self.subTest(k=k):
                alone = [("ride", 2 ** k), ("ride_by", 2 ** k, k)] * 3
                self.assertEqual(
                    ask_after([("start", 4)] + alone, ("who", 2 ** k), *[("ride", 15)] * 5),
                    [k, 0, 1, 2, 3, 0],
                )
                # Parts owed ahead of the lone days: 0: 630, 1: -1890, 2: 630, 3: 630.
                self.assertEqual(
                    ask_after([("start", 4), ("ride_by", 15, 1)] + alone, *[("ride", 15)] * 4),
                    [0, 2, 3, 0],
                )

    def test_all_ten(self):
        rides = [("ride", 1023)] * 25
        self.assertEqual(ask(("start", 10), *rides), [0] + (list(range(10)) * 3)[:25])
        self.assertEqual(
            ask(("start", 10), ("ride", 512), ("ride_by", 1023, 9), ("who", 1023), ("ride", 1024), ("ride", 1023)),
            [0, 9, 1, 0, -22, 0],
        )

    def test_all_owe_alike(self):
        # Each of three drove once: all owe nothing again, and the first has the turn.
        days = [("start", 3), ("ride_by", 7, 2), ("ride_by", 7, 0), ("ride_by", 7, 1)]
        self.assertEqual(
            ask_after(days, ("who", 7), ("who", 6), ("who", 5), ("who", 4), ("ride", 7), ("ride", 7), ("ride", 7)),
            [0, 1, 0, 2, 0, 1, 2],
        )

    def test_somebody_who_always_drives(self):
        days = [("start", 3)] + [("ride_by", 7, 0)] * 3
        self.assertEqual(ask_after(days, *[("ride", 7)] * 8), [1, 2, 1, 2, 1, 2, 0, 1])

    def test_somebody_who_always_drives_for_500_days(self):
        # 500 days of ten put person 0 450 drives ahead and each other 50 behind: the nine take turns.
        days = [("start", 10)] + [("ride_by", 1023, 0)] * 500
        given = ask_after(days, *[("ride", 1023)] * 450, ("who", 1), ("who", 1023))
        self.assertEqual(given, list(range(1, 10)) * 50 + [0, 1])

    def test_1000_days(self):
        before = [("start", 7)] + [("ride", 127)] * 1000
        self.assertEqual(ask(*before), [0] + [day % 7 for day in range(1000)])
        # A refused start leaves the 1,000 days; one that is taken makes room again.
        self.assertEqual(
            ask_after(before, ("start", 1), ("ride", 127), ("who", 127), ("start", 7), ("ride_by", 127, 3), ("ride", 127)),
            [-22, -28, 6, 0, 0, 0],
        )


class ManyLinesTest(unittest.TestCase):
    def line(self, dice, length):
        """A line with a start first, mostly of calls that are taken."""
        n = 2 + dice.below(9)
        calls = [("start", n)]
        for turn in range(length):
            m = dice.one_of((dice.below(2 ** n), dice.below(2 ** n), 2 ** n - 1, 2 ** dice.below(n + 1)))
            k = dice.one_of((dice.below(n), dice.below(n), dice.below(n + 2)))
            m = m if dice.below(40) else dice.one_of((0, 2 ** n, LARGEST, dice.below(LARGEST)))
            calls.append(dice.one_of((("who", m), ("ride", m), ("ride", m), ("ride_by", m, k))))
            if dice.below(80) == 0:
                started = dice.below(13)
                calls.append(("start", started))
                n = started if 2 <= started <= 10 else n
        return calls

    def test_many_lines(self):
        for seed in range(120):
            with self.subTest(seed=seed):
                calls = self.line(Dice(seed), 60)
                self.assertEqual(ask(*calls), slow_ask(*calls))

    def test_nobody_who_rides_owes_more_than_who_drives(self):
        # Riders of changing number: shares of halves to tenths are added up and compared.
        for n in range(2, 11):
            with self.subTest(n=n):
                dice = Dice(1000 + n)
                calls = [("start", n)] + [("ride", 1 + dice.below(2 ** n - 1)) for day in range(150)]
                self.assertEqual(ask(*calls), slow_ask(*calls))


if __name__ == "__main__":
    unittest.main()
