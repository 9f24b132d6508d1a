"""Point 4: back."""

import unittest

from lines import Dice, ask, ask_after, state_of


class BackTest(unittest.TestCase):
    def test_without_days_it_is_refused(self):
        for n in range(2, 11):
            with self.subTest(n=n):
                self.assertEqual(ask(("start", n), ("back",), ("back",)), [0, -6, -6])

    def test_after_a_start_that_came_again_it_is_refused(self):
        self.assertEqual(
            ask(("start", 3), ("ride", 7), ("ride", 7), ("start", 3), ("back",), ("start", 2), ("back",)),
            [0, 0, 1, 0, -6, 0, -6],
        )

    def test_after_all_days_were_taken_back_it_is_refused(self):
        self.assertEqual(
            ask(("start", 2), ("ride", 3), ("ride", 3), ("back",), ("back",), ("back",), ("ride", 2), ("back",), ("back",)),
            [0, 0, 1, 1, 0, -6, 1, 1, -6],
        )

    def test_a_refused_back_changes_nothing(self):
        state = state_of(3)
        self.assertEqual(ask_after([("start", 3), ("back",)], *state), ask_after([("start", 3)], *state))

    def test_who_drove_on_the_last_day_is_answered(self):
        days = [("start", 3), ("ride_by", 7, 2), ("ride_by", 6, 1), ("ride_by", 7, 2), ("ride", 7), ("ride_by", 1, 0)]
        # At the ride 0 owes 1680 parts, 1 420 and 2 is 2100 ahead: 0 drove.
        self.assertEqual(ask_after(days, *[("back",)] * 6), [0, 0, 2, 1, 2, -6])

    def test_everyone_may_be_the_one_who_drove(self):
        for k in range(10):
            with self.subTest(k=k):
                self.assertEqual(ask(("start", 10), ("ride_by", 1023, k), ("back",)), [0, 0, k])

    def test_a_day_taken_back_is_as_if_it_had_never_been(self):
        before = [("start", 3), ("ride_by", 7, 1), ("ride", 6), ("ride_by", 3, 0), ("ride", 7)]
        probes = state_of(3) + [("ride", 7), ("ride_by", 6, 2), ("ride", 5), ("back",), ("back",), ("ride", 3)]
        for many in range(1, len(before) + 1):
            expected = ask_after(before[:many], *probes)
            for m in range(1, 8):
                for day in [("ride", m)] + [("ride_by", m, k) for k in range(3) if m & 2 ** k]:
                    with self.subTest(many=many, day=day):
                        given = ask_after(before[:many], day, ("back",), *probes)
                        self.assertEqual(given[2:], expected)

    def test_all_days_are_taken_back_one_by_one(self):
        for n in (2, 3, 6, 10):
            with self.subTest(n=n):
                dice = Dice(40 + n)
                days = []
                for turn in range(30):
                    m = 1 + dice.below(2 ** n - 1)
                    k = dice.one_of([person for person in range(n) if m & 2 ** person])
                    days.append(dice.one_of((("ride", m), ("ride_by", m, k))))
                probes = [("owes", k) for k in range(n)] + [("count", k) for k in range(n)] + [("who", 2 ** n - 1)]
                there = probes + [call for day in days for call in [day] + probes]
                and_back = [call for day in days for call in [("back",)] + probes]
                given = ask_after([("start", n)], *there, *and_back)
                block = len(probes) + 1
                states = [given[turn * block:turn * block + len(probes)] for turn in range(2 * len(days) + 1)]
                self.assertEqual(states, states[::-1])
                self.assertNotEqual(states[0], states[len(days)])

    def test_refused_calls_leave_the_last_day_the_last(self):
        refused = [("ride", 0), ("ride", 8), ("ride_by", 7, 3), ("ride_by", 6, 0), ("start", 1), ("plan", [0])]
        self.assertEqual(
            ask_after([("start", 3), ("ride_by", 7, 2), ("ride_by", 7, 1)] + refused, ("back",), ("back",), ("back",)),
            [1, 2, -6],
        )

    def test_calls_that_only_ask_leave_the_last_day_the_last(self):
        asked = state_of(3) + [("plan", [7, 7, 7]), ("plan", [])]
        self.assertEqual(
            ask_after([("start", 3), ("ride_by", 7, 2), ("ride_by", 7, 1)] + asked, ("back",), ("back",), ("back",)),
            [1, 2, -6],
        )

    def test_the_turn_goes_back_too(self):
        calls = [("ride", 7), ("back",), ("ride", 7), ("ride", 7), ("back",), ("back",), ("ride", 6), ("back",), ("who", 7)]
        self.assertEqual(ask_after([("start", 3)], *calls), [0, 0, 0, 1, 1, 0, 1, 1, 0])

    def test_at_1000_days_back_makes_room_for_another(self):
        days = [("start", 2)] + [("ride_by", 3, 1)] * 999 + [("ride_by", 3, 0)]
        self.assertEqual(
            ask_after(
                days, ("ride", 3), ("back",), ("ride_by", 3, 1), ("ride_by", 3, 1), ("back",), ("back",),
                ("ride", 3), ("ride_by", 2, 1), ("ride", 3), ("ride_by", 3, 0),
            ),
            [-28, 0, 999, -28, 1, 1, 0, 999, -28, -28],
        )

    def test_all_of_999_days_are_taken_back(self):
        days = [("start", 7)] + [("ride", 127)] * 999
        self.assertEqual(ask_after(days, *[("back",)] * 1000), [day % 7 for day in reversed(range(999))] + [-6])


if __name__ == "__main__":
    unittest.main()
