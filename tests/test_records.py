"""Points 4, 7 and 8: numbers put, looked at and led over, and fields read unlike."""

import random
import unittest
from itertools import product

from endshare.errors import BadFields, BadHand, BadMemory, BadNumber, NoField
from endshare.layouts import laid
from endshare.records import led, look, put, unlike

SIX = [("a", 1), ("b", 2), ("c", 4), ("d", 1), ("e", 4), ("f", 2)]
FIELDS = [("mode", 1), ("speed", 4)]
GREAT = ("great", 4, 1, "up")
SMALL = ("small", 1, 1, "up")
HANDS = [(order, align, 1, "up") for order in ("great", "small") for align in (1, 2, 4)]
NUMBERS = {1: (0, 1, 7, 9), 2: (0, 1, 10, 12, 90, 99), 4: (0, 1, 1000, 1234, 5060, 9999)}
TOO_MUCH = {1: 10, 2: 100, 4: 10000}


def some_memory(room, seed):
    chance = random.Random(seed)
    return [chance.randrange(10) for _ in range(room)]


def refused(kind, call, *told):
    """Tell the refusal, or fail."""
    try:
        call(*told)
    except kind as error:
        return error
    raise AssertionError(f"{call.__name__} does not refuse {told}")


class Put(unittest.TestCase):
    def test_each_size_in_both_orders(self):
        for size, number, great in ((1, 7, [7]), (2, 12, [1, 2]), (4, 1234, [1, 2, 3, 4])):
            fields = [("a", size)]
            memory = [0] * size
            self.assertEqual(put(fields, ("great", 1, 1, "up"), memory, "a", number), great)
            self.assertEqual(put(fields, ("small", 1, 1, "up"), memory, "a", number), great[::-1])

    def test_figures_of_0_ahead(self):
        self.assertEqual(put([("a", 4)], GREAT, [9, 9, 9, 9], "a", 5), [0, 0, 0, 5])
        self.assertEqual(put([("a", 4)], SMALL, [9, 9, 9, 9], "a", 5), [5, 0, 0, 0])
        self.assertEqual(put([("a", 2)], GREAT, [9, 9], "a", 40), [4, 0])
        self.assertEqual(put([("a", 2)], SMALL, [9, 9], "a", 40), [0, 4])

    def test_the_least_and_the_greatest_number(self):
        for order, size in product(("great", "small"), (1, 2, 4)):
            hand = (order, 4, 4, "down")
            self.assertEqual(put([("a", size)], hand, [5] * size, "a", 0), [0] * size)
            greatest = TOO_MUCH[size] - 1
            self.assertEqual(put([("a", size)], hand, [5] * size, "a", greatest), [9] * size)

    def test_all_other_cells_stay_as_they_are(self):
        memory = [1, 2, 3, 4, 5, 6, 7, 8]
        self.assertEqual(put(FIELDS, GREAT, memory, "speed", 9087), [1, 2, 3, 4, 9, 0, 8, 7])
        self.assertEqual(put(FIELDS, GREAT, memory, "mode", 0), [0, 2, 3, 4, 5, 6, 7, 8])
        hand = ("small", 2, 1, "up")
        self.assertEqual(put(FIELDS, hand, memory[:6], "speed", 9087), [1, 2, 7, 8, 0, 9])
        fields = [("speed", 4), ("mode", 1)]
        self.assertEqual(put(fields, GREAT, memory, "speed", 9087), [9, 0, 8, 7, 5, 6, 7, 8])
        self.assertEqual(put(fields, GREAT, memory, "mode", 0), [1, 2, 3, 4, 0, 6, 7, 8])

    def test_wide_and_way_change_nothing(self):
        for wide, way in product((1, 2, 4), ("up", "down")):
            hand = ("small", 4, wide, way)
            self.assertEqual(put(FIELDS, hand, [0] * 8, "speed", 1234), [0, 0, 0, 0, 4, 3, 2, 1])

    def test_six_fields_by_every_hand(self):
        for hand in HANDS:
            places, room = laid(SIX, hand)
            memory = some_memory(room, 1)
            for (name, size), place in zip(SIX, places):
                for number in NUMBERS[size]:
                    figures = [int(figure) for figure in str(number).zfill(size)]
                    want = memory[:]
                    want[place:place + size] = figures if hand[0] == "great" else figures[::-1]
                    self.assertEqual(put(SIX, hand, memory, name, number), want)

    def test_a_list_is_told(self):
        self.assertIs(type(put([("a", 2)], GREAT, [0, 0], "a", 12)), list)


class Look(unittest.TestCase):
    def test_each_size_in_both_orders(self):
        for size, memory, great, small in (
            (1, [7], 7, 7), (2, [1, 2], 12, 21), (4, [1, 2, 3, 4], 1234, 4321),
            (2, [0, 5], 5, 50), (4, [0, 0, 0, 9], 9, 9000), (4, [9, 0, 0, 0], 9000, 9),
        ):
            fields = [("a", size)]
            self.assertEqual(look(fields, ("great", 1, 1, "up"), memory, "a"), great)
            self.assertEqual(look(fields, ("small", 1, 1, "up"), memory, "a"), small)

    def test_the_field_where_the_hand_lays_it(self):
        memory = [1, 2, 3, 4, 5, 6, 7, 8]
        self.assertEqual(look(FIELDS, GREAT, memory, "mode"), 1)
        self.assertEqual(look(FIELDS, GREAT, memory, "speed"), 5678)
        self.assertEqual(look(FIELDS, ("great", 2, 1, "up"), memory[:6], "speed"), 3456)
        self.assertEqual(look(FIELDS, SMALL, memory[:5], "speed"), 5432)

    def test_the_least_and_the_greatest_number(self):
        for order, size in product(("great", "small"), (1, 2, 4)):
            hand = (order, 2, 2, "down")
            self.assertEqual(look([("a", size)], hand, [0] * size, "a"), 0)
            self.assertEqual(look([("a", size)], hand, [9] * size, "a"), TOO_MUCH[size] - 1)

    def test_what_is_put_is_looked_at(self):
        for hand in HANDS:
            memory = some_memory(laid(SIX, hand)[1], 2)
            for name, size in SIX:
                before = [look(SIX, hand, memory, other) for other, _ in SIX if other != name]
                for number in NUMBERS[size]:
                    behind = put(SIX, hand, memory, name, number)
                    self.assertEqual(look(SIX, hand, behind, name), number)
                    self.assertEqual(
                        [look(SIX, hand, behind, other) for other, _ in SIX if other != name], before
                    )

    def test_a_whole_number_is_told(self):
        self.assertIs(type(look([("a", 2)], GREAT, [1, 2], "a")), int)


class RefusedMemory(unittest.TestCase):
    def check(self, at, memory):
        with self.subTest(memory=memory):
            self.assertEqual(refused(BadMemory, put, FIELDS, GREAT, memory, "mode", 1).at, at)
            self.assertEqual(refused(BadMemory, look, FIELDS, GREAT, memory, "mode").at, at)
            self.assertEqual(refused(BadMemory, led, FIELDS, GREAT, SMALL, memory).at, at)

    def test_more_or_fewer_cells(self):
        for many in (0, 1, 5, 7, 9, 20):
            self.check(8, [0] * many)

    def test_more_or_fewer_go_ahead_of_a_cell(self):
        self.check(8, [10] * 7)
        self.check(8, [-1] * 9)

    def test_the_first_cell_that_cannot_be(self):
        for cell in (10, -1, 11, 99, -10, 10 ** 30, True, False):
            for at in range(8):
                memory = [1, 2, 3, 4, 5, 6, 7, 8]
                memory[at] = cell
                self.check(at, memory)
                self.check(at, memory[:at + 1] + [10] * (7 - at))

    def test_cells_from_0_to_9(self):
        for cell in range(10):
            self.assertEqual(look(FIELDS, GREAT, [cell] * 8, "mode"), cell)

    def test_the_room_is_that_of_the_hand(self):
        for hand in HANDS:
            room = laid(FIELDS, hand)[1]
            self.assertEqual(refused(BadMemory, look, FIELDS, hand, [], "mode").at, room)
            look(FIELDS, hand, [0] * room, "mode")

    def test_led_asks_for_the_room_of_the_one_hand(self):
        self.assertEqual(refused(BadMemory, led, FIELDS, GREAT, SMALL, [0] * 5).at, 8)
        self.assertEqual(refused(BadMemory, led, FIELDS, SMALL, GREAT, [0] * 8).at, 5)


class RefusedNamesAndNumbers(unittest.TestCase):
    def test_other_names(self):
        for name in ("", "mod", "modes", "Mode", "mode ", "spee", "a", ":"):
            refused(NoField, put, FIELDS, GREAT, [0] * 8, name, 1)
            refused(NoField, look, FIELDS, GREAT, [0] * 8, name)

    def test_numbers_that_the_field_cannot_have(self):
        for order, size in product(("great", "small"), (1, 2, 4)):
            for number in (-1, TOO_MUCH[size], TOO_MUCH[size] + 1, 10 ** 30, -5000, True, False):
                refused(
                    BadNumber, put, [("a", size)], (order, 1, 1, "up"), [0] * size, "a", number
                )

    def test_by_the_size_of_that_very_field(self):
        refused(BadNumber, put, FIELDS, GREAT, [0] * 8, "mode", 10)
        self.assertEqual(put(FIELDS, GREAT, [0] * 8, "speed", 10)[4:], [0, 0, 1, 0])

    def test_memory_ahead_of_names_ahead_of_numbers(self):
        self.assertEqual(refused(BadMemory, put, FIELDS, GREAT, [0] * 7, "no", 10).at, 8)
        self.assertEqual(refused(BadMemory, put, FIELDS, GREAT, [0] * 7 + [10], "no", 10).at, 7)
        self.assertEqual(refused(BadMemory, look, FIELDS, GREAT, [0] * 7 + [10], "no").at, 7)
        refused(NoField, put, FIELDS, GREAT, [0] * 8, "no", -1)
        refused(BadNumber, put, FIELDS, GREAT, [0] * 8, "mode", -1)

    def test_fields_ahead_of_hands_ahead_of_memory(self):
        bad, left = [("a", 1), ("a", 1)], ("great", 4, 1, "left")
        for call, told in (
            (put, ([10], "no", -1)), (look, ([10], "no")), (led, (GREAT, [10])), (unlike, (GREAT,)),
        ):
            self.assertEqual(refused(BadFields, call, bad, left, *told).number, 1)
            self.assertEqual(refused(BadHand, call, FIELDS, left, *told).why, "way")
        big = ("big", 4, 1, "up")
        self.assertEqual(refused(BadHand, led, FIELDS, left, big, [10]).why, "way")
        self.assertEqual(refused(BadHand, led, FIELDS, GREAT, big, [10]).why, "order")
        self.assertEqual(refused(BadHand, unlike, FIELDS, left, big).why, "way")
        self.assertEqual(refused(BadHand, unlike, FIELDS, GREAT, big).why, "order")


class Led(unittest.TestCase):
    def test_to_another_order_and_other_places(self):
        self.assertEqual(led(FIELDS, GREAT, SMALL, [7, 0, 0, 0, 1, 2, 3, 4]), [7, 4, 3, 2, 1])
        self.assertEqual(led(FIELDS, SMALL, GREAT, [7, 4, 3, 2, 1]), [7, 0, 0, 0, 1, 2, 3, 4])

    def test_cells_of_no_field_hold_0(self):
        memory = [7, 9, 9, 9, 1, 2, 3, 4]
        self.assertEqual(led(FIELDS, GREAT, ("small", 4, 1, "up"), memory), [7, 0, 0, 0, 4, 3, 2, 1])
        self.assertEqual(led(FIELDS, GREAT, ("great", 2, 1, "up"), memory), [7, 0, 1, 2, 3, 4])
        self.assertEqual(led([("b", 4), ("a", 1)], SMALL, GREAT, [1, 2, 3, 4, 5]), [4, 3, 2, 1, 5, 0, 0, 0])

    def test_by_the_same_hand(self):
        self.assertEqual(led(FIELDS, GREAT, GREAT, [7, 9, 9, 9, 1, 2, 3, 4]), [7, 0, 0, 0, 1, 2, 3, 4])
        self.assertEqual(led(FIELDS, SMALL, SMALL, [7, 1, 2, 3, 4]), [7, 1, 2, 3, 4])

    def test_the_other_hand_reads_the_same_numbers(self):
        for one, other in product(HANDS, repeat=2):
            memory = some_memory(laid(SIX, one)[1], 3)
            behind = led(SIX, one, other, memory)
            places, room = laid(SIX, other)
            self.assertEqual(len(behind), room)
            for name, _ in SIX:
                self.assertEqual(look(SIX, other, behind, name), look(SIX, one, memory, name))
            of_fields = {
                place + number for (_, size), place in zip(SIX, places) for number in range(size)
            }
            self.assertEqual([cell for at, cell in enumerate(behind) if at not in of_fields and cell], [])

    def test_over_and_back(self):
        for one, other in product(HANDS, repeat=2):
            memory = some_memory(laid(SIX, one)[1], 4)
            back = led(SIX, other, one, led(SIX, one, other, memory))
            self.assertEqual(back, led(SIX, one, one, memory))


class Unlike(unittest.TestCase):
    def check(self, fields, one, other, want):
        """Test what is told by looks: the field told, and that none ahead is read unlike."""
        told = unlike(fields, one, other)
        rooms = (laid(fields, one)[1], laid(fields, other)[1])
        with self.subTest(fields=fields, one=one, other=other):
            if want is None:
                self.assertIsNone(told)
                return
            self.assertIs(type(told), tuple)
            name, memory = told
            self.assertEqual(name, want)
            self.assertIs(type(memory), list)
            self.assertEqual(len(memory), max(rooms))
            self.assertTrue(all(type(cell) is int and 0 <= cell <= 9 for cell in memory))
            self.assertNotEqual(
                look(fields, one, memory[:rooms[0]], name), look(fields, other, memory[:rooms[1]], name)
            )

    def test_the_same_hand(self):
        for hand in HANDS:
            self.check(SIX, hand, hand, None)

    def test_wide_and_way_change_nothing(self):
        self.check(SIX, ("great", 4, 1, "up"), ("great", 4, 4, "down"), None)

    def test_other_places(self):
        self.check(FIELDS, GREAT, ("great", 1, 1, "up"), "speed")
        self.check(FIELDS, ("great", 1, 1, "up"), GREAT, "speed")
        self.check([("a", 1), ("b", 2), ("c", 1)], ("great", 2, 1, "up"), ("great", 1, 1, "up"), "b")

    def test_another_order(self):
        self.check([("a", 2)], GREAT, SMALL, "a")
        self.check([("a", 4)], SMALL, GREAT, "a")
        self.check(SIX, ("great", 1, 1, "up"), SMALL, "b")

    def test_fields_of_one_cell_are_alike_in_both_orders(self):
        self.check([("a", 1)], GREAT, SMALL, None)
        self.check([(name, 1) for name in "abcdef"], GREAT, SMALL, None)
        self.check([("a", 1), ("b", 1), ("c", 2)], GREAT, ("small", 4, 1, "up"), "c")

    def test_places_unlike_behind_a_field_alike(self):
        self.check([("c", 2), ("a", 1), ("b", 4)], ("small", 1, 1, "up"), ("small", 4, 1, "up"), "b")
        self.check([("b", 4), ("a", 1)], ("small", 1, 1, "up"), ("small", 4, 1, "up"), None)

    def test_first_figures_in_the_same_cell(self):
        # In cells 2 and 3, and in cells 2 and 1.
        self.check([("a", 1), ("b", 2)], ("great", 2, 1, "up"), SMALL, "b")
        self.check([("a", 1), ("b", 2)], SMALL, ("great", 2, 1, "up"), "b")

    def test_last_figures_in_the_same_cell(self):
        # In cells 1 and 2, and in cells 3 and 2.
        self.check([("a", 1), ("b", 2)], ("great", 1, 1, "up"), ("small", 2, 1, "up"), "b")

    def test_a_field_far_off_in_the_greater_room(self):
        fields = [("a", 1), ("b", 1), ("c", 1), ("d", 1), ("e", 1), ("f", 2)]
        self.check(fields, ("great", 2, 1, "up"), ("great", 1, 1, "up"), "f")

    def test_all_hands_and_up_to_three_fields(self):
        for many in (1, 2, 3):
            for sizes in product((1, 2, 4), repeat=many):
                fields = list(zip("abc", sizes))
                for one, other in product(HANDS, repeat=2):
                    self.check(fields, one, other, self.first_by_looks(fields, one, other))

    def first_by_looks(self, fields, one, other):
        """Tell the first field read unlike in a memory with a 1 in one cell, or None.

        A number is a sum over its cells: two that are alike for each cell alone always are.
        """
        rooms = (laid(fields, one)[1], laid(fields, other)[1])
        for name, _ in fields:
            for cell in range(max(rooms)):
                memory = [1 if at == cell else 0 for at in range(max(rooms))]
                reads = (
                    look(fields, one, memory[:rooms[0]], name),
                    look(fields, other, memory[:rooms[1]], name),
                )
                if reads[0] != reads[1]:
                    return name
        return None


if __name__ == "__main__":
    unittest.main()
