"""Points 11 and 12: looks that see a number half turned, and the parts by which none does."""

import random
import unittest
from itertools import product
from math import comb

from naive import Both, naive_torn, naive_widened

from endshare.weaving import torn, widened

A2 = [("a", 2)]
A4 = [("a", 4)]
UP1 = ("great", 4, 1, "up")
UP2 = ("great", 4, 2, "up")
UP4 = ("great", 4, 4, "up")
DOWN1 = ("great", 4, 1, "down")
LOOK = ("look", "a")
WIDES = (1, 2, 4)


def puts(*numbers):
    return [("put", "a", number) for number in numbers]


class Torn(unittest.TestCase):
    def test_the_shortest_weaving(self):
        self.assertEqual(torn(A2, (UP1, UP1), (puts(12), [LOOK])), [0, 1, 1])
        self.assertEqual(torn(A2, (UP1, UP1), ([LOOK], puts(12))), [1, 0, 0])
        self.assertEqual(torn(A4, (UP2, UP2), (puts(1234), [LOOK])), [0, 1, 1])
        self.assertEqual(torn(A4, (UP2, UP1), (puts(1234), [LOOK])), [0, 1, 1, 1, 1])
        self.assertEqual(torn(A4, (UP1, UP4), (puts(1234), [LOOK])), [0, 1])
        self.assertEqual(torn(A4, (UP4, UP1), (puts(1234), [LOOK])), [1, 0, 1, 1, 1])
        self.assertEqual(torn(A4, (UP1, UP4), (puts(1234), [LOOK, LOOK, LOOK])), [0, 1])

    def test_of_several_the_least_list(self):
        # [1, 0, 1] sees the same.
        self.assertEqual(torn(A2, (UP1, DOWN1), (puts(12), [LOOK])), [0, 1, 1])
        self.assertEqual(torn(A2, (DOWN1, UP1), ([LOOK], puts(12))), [0, 1, 0])
        # [1, 1, 0, 0] sees half of the other put.
        programs = (puts(12) + [LOOK], puts(34) + [LOOK])
        self.assertEqual(torn(A2, (UP1, UP1), programs), [0, 0, 1, 0, 0])
        programs = ([("put", "a", 12), ("look", "b")], [("put", "b", 12), ("look", "a")])
        fields = [("a", 2), ("b", 2)]
        # [0, 1, 1, 1, 1] ends with a torn look of the other hand.
        self.assertEqual(torn(fields, (UP1, UP1), programs), [0, 0, 1, 0, 0])

    def test_deeds_ahead_of_the_torn_look(self):
        # The other hand's look is its second deed.
        programs = (puts(12), [("look", "b"), LOOK])
        fields = [("a", 2), ("b", 1)]
        self.assertEqual(torn(fields, (UP1, UP1), programs), [0, 1, 1, 1])
        programs = (puts(12), [("put", "b", 7), LOOK])
        self.assertEqual(torn(fields, (UP1, UP1), programs), [0, 1, 1, 1])

    def test_no_step_is_nothing(self):
        # The one hand has done all its deeds ahead of the last step.
        self.assertEqual(torn(A2, (UP2, UP1), (puts(12), [LOOK])), [1, 0, 1])
        self.assertEqual(torn(A2, (UP1, UP2), (puts(10, 12), puts(34) + [LOOK])), [1, 0, 1])

    def test_none(self):
        self.assertIsNone(torn(A2, (UP1, UP1), ([], [])))
        self.assertIsNone(torn(A2, (UP1, UP1), (puts(12), [])))
        self.assertIsNone(torn(A2, (UP1, UP1), ([LOOK], [LOOK])))
        self.assertIsNone(torn(A2, (UP1, UP1), (puts(12) + [LOOK], [])))
        self.assertIsNone(torn(A2, (UP1, UP1), ([LOOK] + puts(12) + [LOOK], [])))
        self.assertIsNone(torn([("a", 1)], (UP1, UP1), (puts(1, 2, 3), [LOOK] * 3)))
        self.assertIsNone(torn([("a", 2), ("b", 2)], (UP1, UP1), (puts(12), [("look", "b")])))

    def test_in_one_part(self):
        self.assertIsNone(torn(A2, (UP2, UP2), (puts(12, 34), [LOOK] * 3)))
        self.assertIsNone(torn(A2, (UP2, UP4), (puts(12, 34), [LOOK] * 3)))
        self.assertIsNone(torn(A4, (UP4, UP4), (puts(1234) + [LOOK, LOOK], puts(5678) + [LOOK])))
        for wides in ((1, 2), (2, 1)):
            hands = tuple(("great", 1, wide, "up") for wide in wides)
            self.assertIsNotNone(torn(A2, hands, (puts(12), [LOOK])))

    def test_cells_that_the_field_had_at_first(self):
        self.assertIsNone(torn(A2, (UP1, UP1), (puts(0), [LOOK])))
        # By 0 behind 12 the field had 0 0 again, and 0 2 and 1 0 never.
        self.assertEqual(torn(A2, (UP1, UP1), (puts(12, 0), [LOOK])), [0, 1, 1])
        self.assertIsNone(torn(A2, (UP1, UP1), (puts(10, 0), [LOOK])))

    def test_cells_of_a_put_that_is_begun_but_not_over(self):
        # Behind the first part all cells are as the put puts them.
        self.assertIsNone(torn(A2, (UP1, UP1), (puts(10), [LOOK])))
        self.assertIsNone(torn(A4, (UP1, UP4), (puts(5000), [LOOK])))
        self.assertIsNone(torn(A4, (DOWN1, UP1), (puts(5), [LOOK])))
        self.assertIsNone(torn(A4, (UP2, UP1), (puts(50), [LOOK])))
        self.assertEqual(torn(A4, (UP1, UP1), (puts(11), [LOOK])), [0, 0, 0, 1, 1, 1, 1])

    def test_cells_of_a_put_that_is_not_begun_yet(self):
        # 1 0 are the cells of a later put, or of an earlier one.
        self.assertEqual(torn(A2, (UP1, UP2), (puts(12, 10), [LOOK])), [0, 1])
        self.assertIsNone(torn(A2, (UP1, UP2), (puts(10, 12), [LOOK])))
        self.assertEqual(torn(A2, (UP1, UP2), (puts(12), [LOOK] + puts(10))), [0, 1])
        # Here the hand that looks has put 1 0 ahead of its look.
        self.assertIsNone(torn(A2, (UP1, UP2), (puts(12), puts(10) + [LOOK])))

    def test_a_put_begun_ahead_of_the_last_step_within_the_look(self):
        # 0 2 are the cells of a put begun between the two steps of the look.
        self.assertIsNone(torn(A2, (UP2, UP1), (puts(2), [LOOK])))
        self.assertEqual(torn(A2, (UP2, UP1), (puts(12), [LOOK])), [1, 0, 1])
        self.assertIsNone(torn(A2, (UP2, UP1), (puts(12), puts(2) + [LOOK])))

    def test_a_put_to_another_field(self):
        fields = [("a", 2), ("b", 2)]
        programs = ([("put", "b", 10), ("put", "a", 12)], [LOOK])
        self.assertEqual(torn(fields, (UP2, UP1), programs), [0, 1, 0, 1])
        self.assertEqual(torn(fields, (UP1, UP2), programs), [0, 0, 0, 1])

    def test_cells_put_by_both_hands(self):
        self.assertEqual(torn(A2, (UP1, UP1), (puts(11), puts(22) + [LOOK])), [1, 0, 1, 1, 1])
        self.assertEqual(torn(A2, (UP1, UP1), (puts(11) + [LOOK], puts(22))), [0, 0, 1, 0, 0])

    def test_cells_not_numbers(self):
        small = ("small", 4, 2, "up")
        # The other hand reads 21, and the cells are those that were put.
        self.assertIsNone(torn(A2, (UP2, small), (puts(12), [LOOK])))
        # It reads 10 from 0 1, the cells of 1.
        self.assertIsNone(torn(A2, (UP2, small), (puts(1), [LOOK])))
        # It reads 1 from 1 0, but where 1 was put the cells were 0 1.
        self.assertEqual(torn(A2, (UP1, small), (puts(1, 0, 12), [LOOK])), [0, 0, 0, 0, 0, 1])
        # Its own put of 1 has the cells 1 0.
        self.assertIsNone(torn(A2, (UP1, small), (puts(12), puts(1) + [LOOK])))
        self.assertEqual(torn(A2, (UP1, small), (puts(12), puts(10) + [LOOK])), [1, 0, 1])

    def test_a_list_is_told(self):
        self.assertIs(type(torn(A2, (UP1, UP1), (puts(12), [LOOK]))), list)


class Widened(unittest.TestCase):
    def check(self, want, fields, programs):
        """Test what is told for all own parts of the hands."""
        for wides in product(WIDES, repeat=2):
            hands = tuple(("great", 4, wide, "up") for wide in wides)
            with self.subTest(programs=programs, wides=wides):
                self.assertEqual(widened(fields, hands, programs), want)

    def test_parts_of_1_if_no_look_can_be_torn(self):
        self.check((1, 1), A4, ([], []))
        self.check((1, 1), A4, (puts(1234), []))
        self.check((1, 1), A4, ([LOOK], [LOOK]))
        self.check((1, 1), A4, (puts(1000), [LOOK]))
        self.check((1, 1), [("a", 1)], (puts(1, 2, 3), [LOOK]))
        self.check((1, 1), [("a", 2), ("b", 2)], (puts(12), [("look", "b")]))

    def test_both_as_wide_as_the_field(self):
        self.check((2, 2), A2, (puts(12), [LOOK]))
        self.check((2, 2), A2, ([LOOK], puts(12)))
        self.check((4, 4), A4, (puts(1234), [LOOK]))
        self.check((4, 4), A4, (puts(1234, 5678), [LOOK, LOOK, LOOK]))

    def test_less_than_the_field(self):
        self.check((2, 2), A4, (puts(1200), [LOOK]))
        self.check((2, 2), [("a", 2), ("b", 4)], (puts(12), [LOOK, ("look", "b")]))

    def test_one_hand_alone_wider(self):
        # Each part of these puts puts the cells as a whole, but a look sees several of them.
        self.check((1, 2), A4, (puts(1000, 1200), [LOOK]))
        self.check((2, 1), A4, ([LOOK], puts(1000, 1200)))
        self.check((1, 4), A4, (puts(1000, 1001), [LOOK]))
        self.check((4, 1), A4, ([LOOK], puts(1000, 1001)))
        self.check((2, 4), A4, (puts(1200, 1203), [LOOK]))
        self.check((4, 2), A4, ([LOOK], puts(1200, 1203)))

    def test_the_kind_of_value(self):
        told = widened(A4, (UP1, UP1), (puts(1234), [LOOK]))
        self.assertIs(type(told), tuple)
        self.assertEqual([type(wide) for wide in told], [int, int])

    def test_no_look_is_torn_by_what_is_told(self):
        programs = (puts(1200, 1203) + [LOOK], [LOOK, ("put", "b", 12), LOOK])
        fields = [("b", 2), ("a", 4)]
        hands = (("small", 4, 1, "down"), ("great", 1, 1, "up"))
        wides = widened(fields, hands, programs)
        wider = (("small", 4, wides[0], "down"), ("great", 1, wides[1], "up"))
        self.assertIsNone(torn(fields, wider, programs))

    def test_the_longest_programs(self):
        self.check((4, 4), A4, (puts(1234, 5678) + [LOOK], puts(9021, 4367) + [LOOK]))
        self.check((1, 1), A4, ([LOOK] * 3, [LOOK] * 3))


class AgainstTryingAll(unittest.TestCase):
    NUMBERS = {1: (0, 1, 9), 2: (0, 10, 1, 12, 21), 4: (0, 1000, 1, 1200, 1234, 1001)}

    def some(self, chance):
        """Tell fields, hands and programs of few steps."""
        while True:
            fields = [(name, chance.choice((1, 2, 4))) for name in "ab"[:chance.randint(1, 2)]]
            hands = tuple(
                (chance.choice(("great", "small")), chance.choice(WIDES), chance.choice(WIDES), way)
                for way in (chance.choice(("up", "down")), chance.choice(("up", "down")))
            )
            programs = tuple(
                [self.deed(chance, fields) for _ in range(chance.randint(1, 3))] for _ in hands
            )
            narrow = tuple((order, align, 1, way) for order, align, _, way in hands)
            one, other = (len(todo) for todo in Both(fields, narrow, programs).todo)
            if comb(one + other, one) <= 300:
                return fields, hands, programs

    def deed(self, chance, fields):
        name, size = chance.choice(fields)
        if chance.random() < 0.5:
            return ("look", name)
        return ("put", name, chance.choice(self.NUMBERS[size]))

    def test_torn_and_widened(self):
        chance = random.Random(11)
        found = set()
        for _ in range(400):
            told = self.some(chance)
            weaving = torn(*told)
            found.add(weaving is None)
            with self.subTest(told=told):
                self.assertEqual(weaving, naive_torn(*told))
                self.assertEqual(widened(*told), naive_widened(*told))
        self.assertEqual(found, {True, False})


if __name__ == "__main__":
    unittest.main()
