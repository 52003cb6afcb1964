"""Point 9: deeds that cannot be, by each of played, ends, torn and widened."""

import unittest

from endshare.errors import BadDeed, BadFields, BadHand
from endshare.weaving import ends, played, torn, widened

FIELDS = [("mode", 1), ("gear", 2), ("speed", 4)]
HANDS = (("great", 4, 2, "up"), ("small", 2, 1, "down"))
LOOK = ("look", "mode")
PUT = ("put", "speed", 1234)

BAD_DEEDS = (
    (), ("put",), ("look",), ("",), ("mode",),
    ("put", "mode"), ("look", "mode", 1), ("look", "mode", 0), ("put", 1), ("look", 1),
    ("", "mode"), ("Look", "mode"), ("see", "mode"), ("look ", "mode"), ("mode", "look"),
    ("", "mode", 1), ("Put", "mode", 1), ("set", "mode", 1), ("put ", "mode", 1),
    ("look", ""), ("look", "mod"), ("look", "Mode"), ("look", "look"), ("look", "put"),
    ("put", "", 1), ("put", "mod", 1), ("put", "modes", 1), ("put", "put", 1),
    ("put", "mode", 10), ("put", "mode", -1), ("put", "gear", 100), ("put", "gear", -1),
    ("put", "speed", 10000), ("put", "speed", -1), ("put", "speed", 10 ** 30),
    ("put", "mode", True), ("put", "mode", False),
)

GOOD_DEEDS = (
    ("look", "mode"), ("look", "gear"), ("look", "speed"),
    ("put", "mode", 0), ("put", "mode", 9), ("put", "gear", 0), ("put", "gear", 99),
    ("put", "speed", 0), ("put", "speed", 9999),
)


def calls(fields, hands, programs):
    """Tell all that is asked of programs, as calls without arguments."""
    return (
        ("played", lambda: played(fields, hands, programs, [0, 1])),
        ("played, no steps", lambda: played(fields, hands, programs, [])),
        ("ends", lambda: ends(fields, hands, programs)),
        ("torn", lambda: torn(fields, hands, programs)),
        ("widened", lambda: widened(fields, hands, programs)),
    )


class Refused(unittest.TestCase):
    def check(self, hand, number, programs, fields=FIELDS):
        for name, call in calls(fields, HANDS, programs):
            with self.subTest(call=name, programs=programs):
                with self.assertRaises(BadDeed) as caught:
                    call()
                self.assertEqual((caught.exception.hand, caught.exception.number), (hand, number))

    def test_each_form_in_each_place(self):
        for deed in BAD_DEEDS:
            self.check(0, 0, ([deed], []))
            self.check(1, 0, ([LOOK], [deed]))
            self.check(1, 2, ([PUT, LOOK, PUT], [LOOK, PUT, deed]))
            self.check(0, 1, ([PUT, deed, LOOK], [LOOK]))

    def test_a_fourth(self):
        self.check(0, 3, ([LOOK] * 4, []))
        self.check(1, 3, ([], [LOOK] * 4))
        self.check(1, 3, ([LOOK] * 3, [LOOK] * 5))
        self.check(0, 3, ([LOOK] * 3 + [()], []))

    def test_the_first_that_cannot_be(self):
        self.check(0, 1, ([LOOK, (), ()], []))
        self.check(0, 2, ([LOOK, LOOK, (), LOOK], []))
        self.check(1, 1, ([LOOK], [PUT, (), LOOK, LOOK]))

    def test_those_of_hand_0_first(self):
        self.check(0, 2, ([LOOK, LOOK, ()], [()]))
        self.check(0, 3, ([LOOK] * 4, [()]))
        self.check(0, 0, ([()], [()]))

    def test_numbers_by_the_size_of_that_very_field(self):
        self.check(0, 0, ([("put", "mode", 12)], []))
        self.check(1, 0, ([("put", "gear", 12)], [("put", "gear", 123)]))


class NotRefused(unittest.TestCase):
    def test_each_deed_that_can_be(self):
        for deed in GOOD_DEEDS:
            for programs in (([deed], []), ([], [deed])):
                for _, call in calls(FIELDS, HANDS, programs):
                    call()

    def test_none_to_three_deeds(self):
        for many in range(4):
            for _, call in calls(FIELDS, HANDS, ([LOOK] * many, [("put", "mode", 1)] * many)):
                call()


class Ahead(unittest.TestCase):
    def test_fields_go_ahead_of_hands_and_deeds(self):
        hands = (("great", 3, 1, "up"), ("big", 1, 1, "up"))
        for name, call in calls([("a", 1), ("a", 1)], hands, ([()], [()])):
            with self.subTest(call=name):
                with self.assertRaises(BadFields) as caught:
                    call()
                self.assertEqual(caught.exception.number, 1)

    def test_hands_go_ahead_of_deeds_the_first_one_ahead(self):
        bad = (("great", 3, 1, "up"), ("big", 1, 1, "up"))
        for why, hands in (("align", bad), ("order", bad[::-1]), ("order", (HANDS[0], bad[1]))):
            for name, call in calls(FIELDS, hands, ([()], [()])):
                with self.subTest(call=name, hands=hands):
                    with self.assertRaises(BadHand) as caught:
                        call()
                    self.assertEqual(caught.exception.why, why)

    def test_own_parts_that_cannot_be(self):
        # Also by widened, which tells others in the place of these.
        for hands in ((("great", 4, 3, "up"), HANDS[1]), (HANDS[0], ("great", 4, 0, "up"))):
            for name, call in calls(FIELDS, hands, ([], [])):
                with self.subTest(call=name, hands=hands):
                    with self.assertRaises(BadHand) as caught:
                        call()
                    self.assertEqual(caught.exception.why, "wide")


if __name__ == "__main__":
    unittest.main()
