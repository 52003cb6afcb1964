"""Points 2 and 3, and which refusal goes ahead of which, through all that layouts tells."""

import unittest

from endshare.errors import BadFields, BadHand, BadNumber
from endshare.layouts import filled, laid, spread

FIELDS = [("speed", 4), ("mode", 1)]
HAND = ("great", 4, 1, "up")
SIX = [("a", 1), ("b", 2), ("c", 4), ("d", 1), ("e", 2), ("f", 4)]

NOT_NAMES = (
    "", "abcdefg", "A", "aB", "a1", "7", "a b", " a", "a ", "a_", "a:", "a\n", "\u00e9", "\u00df",
    "\u0430", "a\u0301",
)
NOT_SIZES = (0, 3, 5, 6, 8, -1, -2, -4, 16, 10 ** 30, True, False)
BAD_HANDS = (
    ("order", ("Great", 4, 1, "up")),
    ("order", ("", 4, 1, "up")),
    ("order", ("big", 4, 1, "up")),
    ("order", ("up", 4, 1, "up")),
    ("align", ("great", 0, 1, "up")),
    ("align", ("great", 3, 1, "up")),
    ("align", ("great", 8, 1, "up")),
    ("align", ("great", -4, 1, "up")),
    ("align", ("great", True, 1, "up")),
    ("wide", ("small", 4, 0, "up")),
    ("wide", ("small", 4, 3, "up")),
    ("wide", ("small", 4, 8, "up")),
    ("wide", ("small", 4, -1, "up")),
    ("wide", ("small", 4, True, "up")),
    ("way", ("great", 4, 1, "Up")),
    ("way", ("great", 4, 1, "")),
    ("way", ("great", 4, 1, "left")),
    ("way", ("great", 4, 1, "small")),
    ("order", ("", 0, 0, "")),
    ("align", ("great", 0, 0, "")),
    ("wide", ("great", 1, 0, "")),
    ("order", ("great ", 1, 1, "")),
)


def number_refused(call, *told):
    try:
        call(*told)
    except BadFields as error:
        return error.number
    return None


def why_refused(call, *told):
    try:
        call(*told)
    except BadHand as error:
        return error.why
    return None


class RefusedFields(unittest.TestCase):
    def check(self, number, fields):
        gaps = [0] * len(fields)
        with self.subTest(fields=fields):
            self.assertEqual(number_refused(laid, fields, HAND), number)
            self.assertEqual(number_refused(spread, fields, HAND, gaps), number)
            self.assertEqual(number_refused(filled, fields, HAND, HAND), number)

    def test_none(self):
        self.check(0, [])

    def test_one_to_six_can_be(self):
        for many in range(1, 7):
            self.check(None, SIX[:many])

    def test_a_seventh(self):
        self.check(6, SIX + [("g", 1)])
        self.check(6, SIX + [("g", 1), ("h", 1)])
        self.check(6, SIX + [("a", 1)])
        self.check(6, SIX + [("", 3)])

    def test_one_ahead_of_the_seventh(self):
        self.check(5, SIX[:5] + [("F", 1), ("g", 1)])
        self.check(0, [("a", 3)] + SIX[1:] + [("g", 1)])

    def test_names_of_one_to_six_small_letters(self):
        for name in ("a", "z", "az", "abcdef", "zzzzzz"):
            self.check(None, [(name, 1)])

    def test_other_names(self):
        for name in NOT_NAMES:
            self.check(0, [(name, 1)])
            self.check(1, [("a", 1), (name, 1)])

    def test_sizes(self):
        for size in (1, 2, 4):
            self.check(None, [("a", size)])

    def test_other_sizes(self):
        for size in NOT_SIZES:
            self.check(0, [("a", size)])
            self.check(2, [("a", 1), ("b", 2), ("c", size)])

    def test_a_name_told_twice(self):
        self.check(1, [("a", 1), ("a", 1)])
        self.check(1, [("a", 1), ("a", 4)])
        self.check(5, SIX[:5] + [("a", 2)])
        self.check(2, [("a", 1), ("b", 1), ("b", 1), ("a", 1)])
        self.check(None, [("a", 1), ("aa", 1), ("aaa", 1)])

    def test_the_first_that_cannot_be(self):
        self.check(1, [("a", 1), ("b", 3), ("C", 1), ("a", 1)])
        self.check(1, [("a", 1), ("B", 1), ("c", 3)])
        self.check(0, [("a", 3), ("a", 1)])


class RefusedHands(unittest.TestCase):
    def check(self, why, hand):
        gaps = [0] * len(FIELDS)
        with self.subTest(hand=hand):
            self.assertEqual(why_refused(laid, FIELDS, hand), why)
            self.assertEqual(why_refused(spread, FIELDS, hand, gaps), why)
            self.assertEqual(why_refused(filled, FIELDS, hand, HAND), why)
            self.assertEqual(why_refused(filled, FIELDS, HAND, hand), why)

    def test_every_hand_that_can_be(self):
        for order in ("great", "small"):
            for align in (1, 2, 4):
                for wide in (1, 2, 4):
                    for way in ("up", "down"):
                        self.check(None, (order, align, wide, way))

    def test_the_first_word_that_cannot_be(self):
        for why, hand in BAD_HANDS:
            self.check(why, hand)


class Ahead(unittest.TestCase):
    def test_fields_go_ahead_of_hands_and_gaps(self):
        fields = [("a", 1), ("b", 3)]
        hand = ("", 0, 0, "")
        self.assertEqual(number_refused(laid, fields, hand), 1)
        self.assertEqual(number_refused(spread, fields, hand, [0, 10, 0]), 1)
        self.assertEqual(number_refused(spread, fields, HAND, [10]), 1)
        self.assertEqual(number_refused(filled, fields, hand, HAND), 1)
        self.assertEqual(number_refused(filled, fields, HAND, hand), 1)

    def test_the_first_hand_goes_ahead_of_the_second(self):
        no_order = ("", 4, 1, "up")
        no_way = ("great", 4, 1, "")
        self.assertEqual(why_refused(filled, FIELDS, no_order, no_way), "order")
        self.assertEqual(why_refused(filled, FIELDS, no_way, no_order), "way")

    def test_a_hand_goes_ahead_of_gaps(self):
        for gaps in ([], [0], [0, 0, 0], [0, 10], [-1, 0]):
            self.assertEqual(why_refused(spread, FIELDS, ("great", 4, 3, "up"), gaps), "wide")


class RefusedGaps(unittest.TestCase):
    def check(self, gaps):
        with self.subTest(gaps=gaps):
            with self.assertRaises(BadNumber):
                spread(FIELDS, HAND, gaps)

    def test_too_few_and_too_many(self):
        self.check([])
        self.check([0])
        self.check([0, 0, 0])

    def test_below_0_and_above_9(self):
        self.check([-1, 0])
        self.check([0, -1])
        self.check([10, 0])
        self.check([0, 10])
        self.check([0, 10 ** 30])

    def test_true_and_false_are_no_numbers(self):
        self.check([True, 0])
        self.check([0, False])

    def test_0_and_9_can_be(self):
        spread(FIELDS, HAND, [0, 9])
        spread(FIELDS, HAND, [9, 0])


if __name__ == "__main__":
    unittest.main()
