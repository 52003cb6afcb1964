"""Points 2 and 3, and which refusal goes ahead of which, through all that is told of fields."""

import unittest

from endshare.errors import BadFields, BadHand, BadNumber
from endshare.layouts import filled, laid, spread
from endshare.notes import written
from endshare.records import led, look, put, unlike
from endshare.weaving import ends, played, torn, widened

FIELDS = [("speed", 4), ("mode", 1)]
HAND = ("great", 4, 1, "up")
SIX = [("a", 1), ("b", 2), ("c", 4), ("d", 1), ("e", 2), ("f", 4)]

NOT_NAMES = (
    "", "abcdefg", "A", "aB", "a1", "7", "a b", " a", "a ", "a_", "a:", "a\n", "\u00e9", "\u00df",
    "\u0430", "a\u0301",
)
NOT_SIZES = (0, 3, 5, 6, 8, -1, -2, -4, 16, 10 ** 30, True, False)
BAD_HANDS = (
    ("order", ("Great", 4, 1, "up")),
    ("order", ("", 4, 1, "up")),
    ("order", ("big", 4, 1, "up")),
    ("order", ("up", 4, 1, "up")),
    ("align", ("great", 0, 1, "up")),
    ("align", ("great", 3, 1, "up")),
    ("align", ("great", 8, 1, "up")),
    ("align", ("great", -4, 1, "up")),
    ("align", ("great", True, 1, "up")),
    ("wide", ("small", 4, 0, "up")),
    ("wide", ("small", 4, 3, "up")),
    ("wide", ("small", 4, 8, "up")),
    ("wide", ("small", 4, -1, "up")),
    ("wide", ("small", 4, True, "up")),
    ("way", ("great", 4, 1, "Up")),
    ("way", ("great", 4, 1, "")),
    ("way", ("great", 4, 1, "left")),
    ("way", ("great", 4, 1, "small")),
    ("order", ("", 0, 0, "")),
    ("align", ("great", 0, 0, "")),
    ("wide", ("great", 1, 0, "")),
    ("order", ("great ", 1, 1, "")),
)


# HAND lays FIELDS in 8 cells. Behind fields and hands there is handed in what can
# be, or (not right) what cannot be: either way they are refused ahead of it.
MEMORY = [0] * 8
NO_MEMORY = [10]


def calls_with_a_hand(hand, right=True):
    """Tell all that one hand is handed to, as calls of fields alone."""
    memory, name, number = (MEMORY, "mode", 1) if right else (NO_MEMORY, "", -1)
    return (
        lambda fields: laid(fields, hand),
        lambda fields: spread(fields, hand, [0] * len(fields) if right else [10]),
        lambda fields: put(fields, hand, memory, name, number),
        lambda fields: look(fields, hand, memory, name),
    )


def calls_with_hands(one, other, right=True):
    """Tell all that both hands are handed to, as calls of fields alone."""
    memory = MEMORY if right else NO_MEMORY
    programs = ([("look", "mode")], []) if right else ([()], [("look", "")])
    hands = (one, other)
    return (
        lambda fields: filled(fields, one, other),
        lambda fields: led(fields, one, other, memory),
        lambda fields: unlike(fields, one, other),
        lambda fields: played(fields, hands, programs, [0, 1]),
        lambda fields: ends(fields, hands, programs),
        lambda fields: torn(fields, hands, programs),
        lambda fields: widened(fields, hands, programs),
    )


def number_refused(call, *told):
    try:
        call(*told)
    except BadFields as error:
        return error.number
    return None


def why_refused(call, *told):
    try:
        call(*told)
    except BadHand as error:
        return error.why
    return None


class RefusedFields(unittest.TestCase):
    def check(self, number, fields):
        with self.subTest(fields=fields):
            if number is None:
                self.assertEqual(number_refused(laid, fields, HAND), None)
                self.assertEqual(number_refused(filled, fields, HAND, HAND), None)
                self.assertEqual(number_refused(written, fields), None)
                return
            for right in (True, False):
                calls = calls_with_a_hand(HAND, right) + calls_with_hands(HAND, HAND, right)
                for call in calls + (written,):
                    self.assertEqual(number_refused(call, fields), number)

    def test_none(self):
        self.check(0, [])

    def test_one_to_six_can_be(self):
        for many in range(1, 7):
            self.check(None, SIX[:many])

    def test_a_seventh(self):
        self.check(6, SIX + [("g", 1)])
        self.check(6, SIX + [("g", 1), ("h", 1)])
        self.check(6, SIX + [("a", 1)])
        self.check(6, SIX + [("", 3)])

    def test_one_ahead_of_the_seventh(self):
        self.check(5, SIX[:5] + [("F", 1), ("g", 1)])
        self.check(0, [("a", 3)] + SIX[1:] + [("g", 1)])

    def test_names_of_one_to_six_small_letters(self):
        for name in ("a", "z", "az", "abcdef", "zzzzzz"):
            self.check(None, [(name, 1)])

    def test_other_names(self):
        for name in NOT_NAMES:
            self.check(0, [(name, 1)])
            self.check(1, [("a", 1), (name, 1)])

    def test_sizes(self):
        for size in (1, 2, 4):
            self.check(None, [("a", size)])

    def test_other_sizes(self):
        for size in NOT_SIZES:
            self.check(0, [("a", size)])
            self.check(2, [("a", 1), ("b", 2), ("c", size)])

    def test_a_name_told_twice(self):
        self.check(1, [("a", 1), ("a", 1)])
        self.check(1, [("a", 1), ("a", 4)])
        self.check(5, SIX[:5] + [("a", 2)])
        self.check(2, [("a", 1), ("b", 1), ("b", 1), ("a", 1)])
        self.check(None, [("a", 1), ("aa", 1), ("aaa", 1)])

    def test_the_first_that_cannot_be(self):
        self.check(1, [("a", 1), ("b", 3), ("C", 1), ("a", 1)])
        self.check(1, [("a", 1), ("B", 1), ("c", 3)])
        self.check(0, [("a", 3), ("a", 1)])


class RefusedHands(unittest.TestCase):
    def check(self, why, hand):
        # A hand that can be lays FIELDS in 8 cells only with an align of 4.
        calls = (
            lambda fields: laid(fields, hand),
            lambda fields: spread(fields, hand, [0, 0]),
            lambda fields: filled(fields, hand, HAND),
            lambda fields: filled(fields, HAND, hand),
            lambda fields: unlike(fields, hand, HAND),
            lambda fields: unlike(fields, HAND, hand),
        )
        if why is not None:
            for right in (True, False):
                calls += calls_with_a_hand(hand, right)
                calls += calls_with_hands(hand, HAND, right) + calls_with_hands(HAND, hand, right)
        with self.subTest(hand=hand):
            for call in calls:
                self.assertEqual(why_refused(call, FIELDS), why)

    def test_every_hand_that_can_be(self):
        for order in ("great", "small"):
            for align in (1, 2, 4):
                for wide in (1, 2, 4):
                    for way in ("up", "down"):
                        self.check(None, (order, align, wide, way))

    def test_the_first_word_that_cannot_be(self):
        for why, hand in BAD_HANDS:
            self.check(why, hand)


class Ahead(unittest.TestCase):
    def test_fields_go_ahead_of_hands_and_all_else(self):
        fields = [("a", 1), ("b", 3)]
        hand = ("", 0, 0, "")
        for right in (True, False):
            calls = calls_with_a_hand(hand, right)
            calls += calls_with_hands(hand, HAND, right) + calls_with_hands(HAND, hand, right)
            for call in calls:
                self.assertEqual(number_refused(call, fields), 1)

    def test_the_first_hand_goes_ahead_of_the_second(self):
        no_order = ("", 4, 1, "up")
        no_way = ("great", 4, 1, "")
        for right in (True, False):
            for call in calls_with_hands(no_order, no_way, right):
                self.assertEqual(why_refused(call, FIELDS), "order")
            for call in calls_with_hands(no_way, no_order, right):
                self.assertEqual(why_refused(call, FIELDS), "way")

    def test_a_hand_goes_ahead_of_gaps(self):
        for gaps in ([], [0], [0, 0, 0], [0, 10], [-1, 0]):
            self.assertEqual(why_refused(spread, FIELDS, ("great", 4, 3, "up"), gaps), "wide")

    def test_nothing_is_refused_of_what_can_be(self):
        for call in calls_with_a_hand(HAND) + calls_with_hands(HAND, HAND):
            call(FIELDS)


class RefusedGaps(unittest.TestCase):
    def check(self, gaps):
        with self.subTest(gaps=gaps):
            with self.assertRaises(BadNumber):
                spread(FIELDS, HAND, gaps)

    def test_too_few_and_too_many(self):
        self.check([])
        self.check([0])
        self.check([0, 0, 0])

    def test_below_0_and_above_9(self):
        self.check([-1, 0])
        self.check([0, -1])
        self.check([10, 0])
        self.check([0, 10])
        self.check([0, 10 ** 30])

    def test_true_and_false_are_no_numbers(self):
        self.check([True, 0])
        self.check([0, False])

    def test_0_and_9_can_be(self):
        spread(FIELDS, HAND, [0, 9])
        spread(FIELDS, HAND, [9, 0])


if __name__ == "__main__":
    unittest.main()
