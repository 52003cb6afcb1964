"""Points 5 and 6, and what point 1 says of all that is handed in and told."""

import copy
import inspect
import unittest
from itertools import product

from endshare import layouts
from endshare.layouts import filled, laid, spread

SIX = [("a", 1), ("b", 2), ("c", 4), ("d", 1), ("e", 4), ("f", 2)]


def hand(align, order="great", wide=1, way="up"):
    return (order, align, wide, way)


def fields_of(sizes):
    return [("abcdef"[number], size) for number, size in enumerate(sizes)]


def places_by_walking(sizes, align, gaps):
    """Tell (places, room) cell by cell, with no arithmetic of the program's."""
    places, end = [], 0
    for size, gap in zip(sizes, gaps):
        place = end + gap
        while place % min(size, align) != 0:
            place += 1
        places.append(place)
        end = place + size
    room = end
    while room % max(min(size, align) for size in sizes) != 0:
        room += 1
    return places, room


def filled_by_trying(sizes, one, other, most):
    """Tell the first gaps of the least sum, of all with no gap above most."""
    alike = [
        (sum(gaps), list(gaps))
        for gaps in product(range(most + 1), repeat=len(sizes))
        if places_by_walking(sizes, one, gaps)[0] == places_by_walking(sizes, other, gaps)[0]
    ]
    return min(alike)[1]


class Laid(unittest.TestCase):
    def test_one_field_begins_at_0(self):
        for size in (1, 2, 4):
            for align in (1, 2, 4):
                self.assertEqual(laid([("a", size)], hand(align)), ([0], size))

    def test_steps_are_the_lesser_of_size_and_align(self):
        fields = [("mode", 1), ("speed", 4)]
        self.assertEqual(laid(fields, hand(1)), ([0, 1], 5))
        self.assertEqual(laid(fields, hand(2)), ([0, 2], 6))
        self.assertEqual(laid(fields, hand(4)), ([0, 4], 8))
        self.assertEqual(laid([("a", 1), ("b", 2)], hand(4)), ([0, 2], 4))
        self.assertEqual(laid([("a", 1), ("b", 1), ("c", 1)], hand(4)), ([0, 1, 2], 3))

    def test_a_room_beyond_the_end_of_the_last_field(self):
        fields = [("speed", 4), ("mode", 1)]
        self.assertEqual(laid(fields, hand(1)), ([0, 4], 5))
        self.assertEqual(laid(fields, hand(2)), ([0, 4], 6))
        self.assertEqual(laid(fields, hand(4)), ([0, 4], 8))

    def test_the_greatest_step_may_be_below_align(self):
        self.assertEqual(laid([("a", 2), ("b", 1)], hand(4)), ([0, 2], 4))
        self.assertEqual(laid([("a", 2), ("b", 2), ("c", 2)], hand(4)), ([0, 2, 4], 6))

    def test_six_fields(self):
        self.assertEqual(laid(SIX, hand(1)), ([0, 1, 3, 7, 8, 12], 14))
        self.assertEqual(laid(SIX, hand(2)), ([0, 2, 4, 8, 10, 14], 16))
        self.assertEqual(laid(SIX, hand(4)), ([0, 2, 4, 8, 12, 16], 20))

    def test_fields_keep_their_order(self):
        self.assertEqual(laid([("b", 4), ("a", 1)], hand(4))[0], [0, 4])
        self.assertEqual(laid([("a", 1), ("b", 4)], hand(4))[0], [0, 4])
        self.assertEqual(laid([("z", 1), ("a", 2), ("m", 1)], hand(1)), ([0, 1, 3], 4))

    def test_order_wide_and_way_change_nothing(self):
        for align in (1, 2, 4):
            told = laid(SIX, hand(align))
            for order, wide, way in product(("great", "small"), (1, 2, 4), ("up", "down")):
                self.assertEqual(laid(SIX, hand(align, order, wide, way)), told)

    def test_all_sizes_up_to_four_fields(self):
        for many in range(1, 5):
            for sizes in product((1, 2, 4), repeat=many):
                for align in (1, 2, 4):
                    want = places_by_walking(sizes, align, [0] * many)
                    self.assertEqual(laid(fields_of(sizes), hand(align)), want)


class Spread(unittest.TestCase):
    def test_no_gaps_are_laid(self):
        for align in (1, 2, 4):
            self.assertEqual(spread(SIX, hand(align), [0] * 6), laid(SIX, hand(align)))

    def test_a_gap_ahead_of_the_first_field(self):
        self.assertEqual(spread([("a", 4)], hand(1), [3]), ([3], 7))
        self.assertEqual(spread([("a", 4)], hand(2), [3]), ([4], 8))
        self.assertEqual(spread([("a", 4)], hand(4), [3]), ([4], 8))
        self.assertEqual(spread([("a", 4)], hand(4), [5]), ([8], 12))

    def test_a_gap_is_counted_from_the_end_of_the_field_ahead(self):
        fields = [("a", 1), ("b", 4)]
        self.assertEqual(spread(fields, hand(4), [0, 2]), ([0, 4], 8))
        self.assertEqual(spread(fields, hand(4), [0, 3]), ([0, 4], 8))
        self.assertEqual(spread(fields, hand(4), [0, 4]), ([0, 8], 12))
        self.assertEqual(spread(fields, hand(4), [1, 3]), ([1, 8], 12))

    def test_gaps_of_9(self):
        fields = [("a", 1), ("b", 4)]
        self.assertEqual(spread(fields, hand(1), [9, 9]), ([9, 19], 23))
        self.assertEqual(spread(fields, hand(2), [9, 9]), ([9, 20], 24))
        self.assertEqual(spread(fields, hand(4), [9, 9]), ([9, 20], 24))
        self.assertEqual(spread([("a", 1)], hand(4), [9]), ([9], 10))

    def test_six_fields_with_gaps(self):
        gaps = [1, 0, 2, 9, 0, 3]
        self.assertEqual(spread(SIX, hand(1), gaps), ([1, 2, 6, 19, 20, 27], 29))
        self.assertEqual(spread(SIX, hand(2), gaps), ([1, 2, 6, 19, 20, 28], 30))
        self.assertEqual(spread(SIX, hand(4), gaps), ([1, 2, 8, 21, 24, 32], 36))

    def test_all_gaps_of_two_fields(self):
        for sizes in product((1, 2, 4), repeat=2):
            for gaps in product(range(10), repeat=2):
                for align in (1, 2, 4):
                    want = places_by_walking(sizes, align, gaps)
                    self.assertEqual(spread(fields_of(sizes), hand(align), list(gaps)), want)


class Filled(unittest.TestCase):
    def test_hands_of_the_same_align_need_no_gap(self):
        for align in (1, 2, 4):
            self.assertEqual(filled(SIX, hand(align), hand(align, "small", 4, "down")), [0] * 6)

    def test_one_field_needs_no_gap(self):
        for size in (1, 2, 4):
            self.assertEqual(filled([("a", size)], hand(1), hand(4)), [0])

    def test_gaps_that_the_lesser_step_needs(self):
        fields = [("mode", 1), ("speed", 4)]
        self.assertEqual(filled(fields, hand(1), hand(2)), [0, 1])
        self.assertEqual(filled(fields, hand(1), hand(4)), [0, 3])
        self.assertEqual(filled(fields, hand(2), hand(4)), [0, 2])
        self.assertEqual(filled([("a", 2), ("b", 4)], hand(2), hand(4)), [0, 1])

    def test_it_is_the_same_with_the_hands_exchanged(self):
        for sizes in product((1, 2, 4), repeat=3):
            for one, other in product((1, 2, 4), repeat=2):
                fields = fields_of(sizes)
                self.assertEqual(
                    filled(fields, hand(one), hand(other)), filled(fields, hand(other), hand(one))
                )

    def test_of_several_the_first_as_lists_ascend(self):
        # [1, 0] lays both fields alike, too.
        fields = [("a", 1), ("b", 2)]
        self.assertEqual(spread(fields, hand(1), [1, 0])[0], spread(fields, hand(2), [1, 0])[0])
        self.assertEqual(filled(fields, hand(1), hand(2)), [0, 1])
        self.assertEqual(filled(SIX, hand(1), hand(4)), [0, 1, 0, 0, 3, 0])

    def test_a_gap_ahead_may_save_several_behind(self):
        # With the least gap for each field by itself the last would need two.
        fields = [("a", 2), ("b", 2), ("c", 1), ("d", 4)]
        self.assertEqual(filled(fields, hand(2), hand(4)), [0, 1, 0, 0])
        fields = [("a", 2), ("b", 1), ("c", 1), ("d", 1), ("e", 4)]
        self.assertEqual(filled(fields, hand(2), hand(4)), [1, 0, 0, 0, 0])

    def test_the_rooms_may_be_unlike(self):
        fields = [("speed", 4), ("mode", 1)]
        gaps = filled(fields, hand(1), hand(4))
        self.assertEqual(gaps, [0, 0])
        self.assertEqual(spread(fields, hand(1), gaps), ([0, 4], 5))
        self.assertEqual(spread(fields, hand(4), gaps), ([0, 4], 8))

    def test_order_wide_and_way_change_nothing(self):
        for order, wide, way in product(("great", "small"), (1, 2, 4), ("up", "down")):
            told = filled(SIX, hand(1, order, wide, way), hand(4))
            self.assertEqual(told, [0, 1, 0, 0, 3, 0])

    def test_up_to_four_fields_against_trying_all(self):
        for many in range(1, 5):
            for sizes in product((1, 2, 4), repeat=many):
                for one, other in ((1, 2), (1, 4), (4, 2)):
                    want = filled_by_trying(sizes, one, other, 3)
                    with self.subTest(sizes=sizes, one=one, other=other):
                        self.assertEqual(filled(fields_of(sizes), hand(one), hand(other)), want)

    def test_two_fields_against_trying_all_to_9(self):
        for sizes in product((1, 2, 4), repeat=2):
            for one, other in product((1, 2, 4), repeat=2):
                want = filled_by_trying(sizes, one, other, 9)
                self.assertEqual(filled(fields_of(sizes), hand(one), hand(other)), want)

    def test_six_fields_against_trying_all(self):
        for sizes in ((1, 2, 4, 1, 4, 2), (2, 1, 1, 1, 4, 4), (2, 2, 1, 4, 1, 4)):
            for one, other in ((1, 4), (2, 4), (2, 1)):
                want = filled_by_trying(sizes, one, other, 3)
                self.assertEqual(filled(fields_of(sizes), hand(one), hand(other)), want)


class HandedInAndTold(unittest.TestCase):
    def calls(self):
        return (
            (laid, [SIX[:], hand(4)]),
            (spread, [SIX[:], hand(2), [1, 0, 2, 9, 0, 3]]),
            (filled, [SIX[:], hand(1), hand(4)]),
        )

    def test_what_is_handed_in_stays_as_it_was(self):
        for call, told in self.calls():
            before = copy.deepcopy(told)
            call(*told)
            self.assertEqual(told, before)

    def test_what_is_told_may_be_changed(self):
        for call, told in self.calls():
            first = call(*told)
            before = copy.deepcopy(first)
            changed = first[0] if isinstance(first, tuple) else first
            changed[0] = 99
            changed.append("more")
            self.assertEqual(call(*told), before)
            self.assertEqual(told, dict(self.calls())[call])

    def test_what_is_told_is_not_what_was_handed_in(self):
        gaps = [0]
        places, _ = spread([("a", 1)], hand(1), gaps)
        places[0] = 5
        self.assertEqual(gaps, [0])

    def test_what_was_handed_in_may_be_changed_behind(self):
        fields = [("a", 1), ("b", 4)]
        gaps = [0, 4]
        told = (laid(fields, hand(4)), spread(fields, hand(4), gaps), filled(fields, hand(1), hand(4)))
        before = copy.deepcopy(told)
        fields[0] = ("zz", 4)
        fields.append(("c", 2))
        gaps[1] = 0
        self.assertEqual(told, before)
        self.assertEqual(laid(fields, hand(4)), ([0, 4, 8], 12))

    def test_the_same_question_has_the_same_answer(self):
        for call, told in self.calls():
            self.assertEqual(call(*told), call(*copy.deepcopy(told)))


class Interface(unittest.TestCase):
    def test_names_and_arguments(self):
        for name, names in (
            ("laid", ["fields", "hand"]),
            ("spread", ["fields", "hand", "gaps"]),
            ("filled", ["fields", "one", "other"]),
        ):
            call = getattr(layouts, name)
            self.assertEqual(list(inspect.signature(call).parameters), names)
            self.assertEqual(call.__module__, "endshare.layouts")

    def test_kinds_of_values(self):
        for told in (laid(SIX, hand(4)), spread(SIX, hand(4), [1] * 6)):
            self.assertIs(type(told), tuple)
            self.assertEqual([type(part) for part in told], [list, int])
            self.assertEqual([type(place) for place in told[0]], [int] * 6)
        gaps = filled(SIX, hand(1), hand(4))
        self.assertIs(type(gaps), list)
        self.assertEqual([type(gap) for gap in gaps], [int] * 6)


if __name__ == "__main__":
    unittest.main()
