"""A refusal leaves the object as it was."""

import unittest

from lines import LARGEST, Dice, ask, state_of

REFUSED_OF_THREE = (
    (("start", 0), -22), (("start", 1), -22), (("start", 11), -22), (("start", LARGEST), -22),
    (("who", 0), -22), (("who", 8), -22), (("who", LARGEST), -22),
    (("ride", 0), -22), (("ride", 8), -22), (("ride", 15), -22), (("ride", LARGEST), -22),
    (("ride_by", 0, 0), -22), (("ride_by", 8, 3), -22), (("ride_by", 15, 1), -22),
    (("ride_by", 6, 0), -2), (("ride_by", 7, 3), -2), (("ride_by", 7, LARGEST), -2),
    (("owes", 3), [-2]), (("owes", 4), [-2]), (("owes", LARGEST), [-2]),
    (("count", 3), [-2]), (("count", 4), [-2]), (("count", LARGEST), [-2]),
    (("plan", [7] * 8), [-22]), (("plan", [7] * 20), [-22]), (("plan", [7, 0, 7]), [-22]), (("plan", [7, 7, 8]), [-22]),
    (("plan", [0]), [-22]), (("plan", [65535]), [-22]),
)

EMPTY_OF_THREE = ((("back",), -6),)

FULL_OF_THREE = ((("ride", 7), -28), (("ride", 2), -28), (("ride_by", 7, 1), -28), (("ride_by", 4, 2), -28))

PROBES = state_of(3) + [
    ("plan", [7, 6, 5]), ("ride_by", 7, 2), ("ride", 7), ("ride", 6), ("ride", 7), ("back",), ("back",), ("owes", 2),
]


class RefusalTest(unittest.TestCase):
    def check_each(self, before, refused):
        expected = ask(*before, *PROBES)
        for call, refusal in refused:
            with self.subTest(call=call):
                given = ask(*before, call, *PROBES)
                self.assertEqual(given[len(before)], refusal)
                self.assertEqual(given[:len(before)] + given[len(before) + 1:], expected)

    def test_on_an_object_without_days(self):
        self.check_each([("start", 3)], REFUSED_OF_THREE + EMPTY_OF_THREE)
        self.check_each([("start", 3), ("ride", 7), ("back",)], REFUSED_OF_THREE + EMPTY_OF_THREE)

    def test_on_an_object_with_days(self):
        self.check_each([("start", 3), ("ride", 7), ("ride_by", 3, 0), ("ride", 5)], REFUSED_OF_THREE)

    def test_on_an_object_with_1000_days(self):
        before = [("start", 3), ("ride_by", 6, 1)] + [("ride", 7)] * 999
        self.check_each(before, REFUSED_OF_THREE + FULL_OF_THREE)

    def test_a_line_strewn_with_refusals_answers_as_one_without(self):
        dice = Dice(7)
        plain = [("start", 3)]
        for turn in range(200):
            plain.append(dice.one_of((
                ("ride", 7), ("ride", 5), ("ride_by", 7, 2), ("ride_by", 3, 0), ("who", 6), ("back",), ("owes", 1),
                ("count", 0), ("plan", [7, 3, 6]),
            )))
        refused = [dice.one_of(REFUSED_OF_THREE) for call in plain]
        strewn = [call for both in zip(plain, refused) for call in (both[0], both[1][0])]
        given = ask(*strewn)
        self.assertEqual(given[0::2], ask(*plain))
        self.assertEqual(given[1::2], [refusal for call, refusal in refused])


if __name__ == "__main__":
    unittest.main()
