"""Points 9 and 10: what both hands see part by part, in one weaving and in all."""

import unittest
from itertools import product

from naive import naive_ends, naive_played, weavings

from endshare.layouts import filled, spread
from endshare.weaving import ends, played

A4 = [("a", 4)]
UP1 = ("great", 4, 1, "up")
UP2 = ("great", 4, 2, "up")
UP4 = ("great", 4, 4, "up")
DOWN1 = ("great", 4, 1, "down")
DOWN2 = ("great", 4, 2, "down")
PUT = ("put", "a", 1234)
LOOK = ("look", "a")


def memories(fields, hand, deed, many):
    """Tell the memory behind each of so many steps of one deed."""
    return [played(fields, (hand, UP1), ([deed], []), [0] * done)[2] for done in range(many + 1)]


class Parts(unittest.TestCase):
    def test_puts_of_wide_1(self):
        self.assertEqual(memories(A4, UP1, PUT, 4), [
            [0, 0, 0, 0], [1, 0, 0, 0], [1, 2, 0, 0], [1, 2, 3, 0], [1, 2, 3, 4],
        ])
        self.assertEqual(memories(A4, DOWN1, PUT, 4), [
            [0, 0, 0, 0], [0, 0, 0, 4], [0, 0, 3, 4], [0, 2, 3, 4], [1, 2, 3, 4],
        ])

    def test_puts_of_wide_2(self):
        self.assertEqual(memories(A4, UP2, PUT, 2), [[0, 0, 0, 0], [1, 2, 0, 0], [1, 2, 3, 4]])
        self.assertEqual(memories(A4, DOWN2, PUT, 2), [[0, 0, 0, 0], [0, 0, 3, 4], [1, 2, 3, 4]])

    def test_puts_of_wide_4(self):
        for way in ("up", "down"):
            hand = ("great", 4, 4, way)
            self.assertEqual(memories(A4, hand, PUT, 1), [[0, 0, 0, 0], [1, 2, 3, 4]])

    def test_puts_in_the_order_small(self):
        self.assertEqual(memories(A4, ("small", 4, 2, "up"), PUT, 2)[1:], [[4, 3, 0, 0], [4, 3, 2, 1]])
        self.assertEqual(memories(A4, ("small", 4, 2, "down"), PUT, 2)[1:], [[0, 0, 2, 1], [4, 3, 2, 1]])

    def test_a_field_of_fewer_cells_in_one_part(self):
        for wide, way in product((2, 4), ("up", "down")):
            hand = ("great", 4, wide, way)
            self.assertEqual(memories([("a", 2)], hand, ("put", "a", 12), 1), [[0, 0], [1, 2]])
            self.assertEqual(memories([("a", 1)], hand, ("put", "a", 7), 1), [[0], [7]])
        self.assertEqual(memories([("a", 2)], DOWN1, ("put", "a", 12), 2), [[0, 0], [0, 2], [1, 2]])
        self.assertEqual(memories([("a", 1)], UP1, ("put", "a", 7), 1), [[0], [7]])

    def test_looks_part_by_part(self):
        # The put, in one part, goes behind so many steps of the look.
        for hand, saw in (
            (UP1, [1234, 234, 34, 4, 0]), (DOWN1, [1234, 1230, 1200, 1000, 0]),
            (UP2, [1234, 34, 0]), (DOWN2, [1234, 1200, 0]), (UP4, [1234, 0]),
        ):
            for done, number in enumerate(saw):
                steps = len(saw) - 1
                weaving = [1] * done + [0] + [1] * (steps - done)
                told = played(A4, (UP4, hand), ([PUT], [LOOK]), weaving)
                self.assertEqual(told, ([], [number], [1, 2, 3, 4]))

    def test_looks_in_the_hand_s_own_order(self):
        small = ("small", 4, 2, "up")
        self.assertEqual(played(A4, (UP4, small), ([PUT], [LOOK]), [0, 1, 1])[1], [4321])
        self.assertEqual(played(A4, (UP4, small), ([PUT], [LOOK]), [1, 0, 1])[1], [4300])
        self.assertEqual(played(A4, (small, UP4), ([PUT], [LOOK]), [0, 1, 0])[1], [4300])
        small = ("small", 4, 1, "down")
        self.assertEqual(played(A4, (UP4, small), ([PUT], [LOOK]), [1, 1, 0, 1, 1])[1], [21])
        self.assertEqual(played(A4, (small, UP4), ([LOOK], [PUT]), [0, 0, 1, 0, 0])[0], [21])

    def test_a_field_that_is_not_the_first(self):
        fields = [("m", 1), ("a", 4), ("n", 2)]
        hands = (("great", 2, 2, "down"), ("small", 2, 2, "up"))
        programs = ([("put", "a", 1234), ("put", "n", 56)], [("put", "m", 7), ("look", "n"), ("look", "a")])
        self.assertEqual(
            played(fields, hands, programs, [1, 0, 0, 0, 1, 1, 1]),
            ([], [65, 4321], [7, 0, 1, 2, 3, 4, 5, 6]),
        )
        self.assertEqual(
            played(fields, hands, programs, [0, 1, 1, 1, 0, 0, 1]),
            ([], [0, 4300], [7, 0, 1, 2, 3, 4, 5, 6]),
        )


class Played(unittest.TestCase):
    def test_an_empty_weaving(self):
        self.assertEqual(played(A4, (UP1, UP1), ([PUT], [LOOK]), []), ([], [], [0, 0, 0, 0]))

    def test_only_looks_that_are_over_are_told(self):
        programs = ([PUT, LOOK], [LOOK, LOOK])
        self.assertEqual(
            played(A4, (UP2, UP2), programs, [0, 0, 0, 1, 1, 1]), ([], [1234], [1, 2, 3, 4])
        )
        self.assertEqual(
            played(A4, (UP2, UP2), programs, [1, 0, 0, 0, 0, 1]), ([1234], [34], [1, 2, 3, 4])
        )

    def test_a_weaving_that_ends_within_a_put(self):
        self.assertEqual(played(A4, (UP1, DOWN1), ([PUT], [PUT]), [0, 1, 0]), ([], [], [1, 2, 0, 4]))

    def test_a_step_is_nothing_if_all_is_done(self):
        programs = ([PUT], [LOOK])
        want = ([], [1200], [1, 2, 3, 4])
        self.assertEqual(played(A4, (UP2, UP4), programs, [0, 1, 0]), want)
        self.assertEqual(played(A4, (UP2, UP4), programs, [0, 1, 1, 1, 0]), want)
        self.assertEqual(played(A4, (UP2, UP4), programs, [0, 1, 0, 0, 1, 0, 1]), want)
        self.assertEqual(played(A4, (UP2, UP4), ([], []), [0, 1, 0, 1]), ([], [], [0, 0, 0, 0]))
        self.assertEqual(played(A4, (UP2, UP4), ([PUT], []), [1, 1, 0]), ([], [], [1, 2, 0, 0]))

    def test_sixty_steps(self):
        programs = ([PUT, LOOK, PUT], [LOOK, ("put", "a", 9876), LOOK])
        hands = (UP1, DOWN1)
        for weaving in ([0, 1] * 30, [1] * 30 + [0] * 30, [0] * 60, [1] * 60, [1, 1, 0] * 20):
            self.assertEqual(
                played(A4, hands, programs, weaving), naive_played(A4, hands, programs, weaving)
            )
        self.assertEqual(
            played(A4, hands, programs, [0] * 48 + [1] * 12), ([1234], [1234, 9876], [9, 8, 7, 6])
        )

    def test_numbers_in_the_order_of_the_looks(self):
        programs = ([LOOK, PUT, LOOK], [LOOK, ("put", "a", 5), LOOK])
        self.assertEqual(
            played(A4, (UP4, UP4), programs, [0, 1, 0, 0, 1, 1]), ([0, 1234], [0, 5], [0, 0, 0, 5])
        )

    def test_numbers_told_twice(self):
        programs = ([PUT], [LOOK, LOOK, LOOK])
        self.assertEqual(played(A4, (UP4, UP4), programs, [0, 1, 1, 1])[1], [1234] * 3)

    def test_the_memory_is_laid_by_the_told_gaps(self):
        fields = [("m", 1), ("a", 4)]
        for one, other, room in ((1, 4, 8), (4, 1, 8), (2, 1, 6), (1, 1, 5), (1, 2, 6)):
            hands = (("great", one, 4, "up"), ("great", other, 4, "up"))
            self.assertEqual(filled(fields, *hands), [0, room - 5])
            _, _, memory = played(fields, hands, ([("put", "m", 7)], [PUT]), [0, 1])
            self.assertEqual(memory, [7] + [0] * (room - 5) + [1, 2, 3, 4])

    def test_a_gap_ahead_of_the_first_field(self):
        fields = [("a", 2), ("b", 1), ("c", 1), ("d", 1), ("e", 4)]
        hands = (("great", 2, 2, "up"), ("great", 4, 2, "up"))
        _, _, memory = played(fields, hands, ([("put", "a", 12)], [("put", "b", 3)]), [0, 1])
        self.assertEqual(spread(fields, hands[0], filled(fields, *hands))[0][0], 2)
        self.assertEqual(memory, [0, 0, 1, 2, 3] + [0] * 7)

    def test_the_room_is_that_of_the_one_hand(self):
        fields = [("a", 4), ("m", 1)]
        one, other = ("great", 1, 1, "up"), ("great", 4, 1, "up")
        self.assertEqual(played(fields, (one, other), ([], []), []), ([], [], [0] * 5))
        self.assertEqual(played(fields, (other, one), ([], []), []), ([], [], [0] * 8))

    def test_all_weavings_of_two_programs(self):
        fields = [("a", 2), ("b", 1), ("c", 4)]
        hands = (("small", 1, 2, "down"), ("great", 2, 1, "up"))
        programs = (
            [("put", "c", 1234), ("look", "a"), ("put", "b", 5)],
            [("put", "a", 67), ("look", "c"), ("look", "b")],
        )
        for weaving in weavings(fields, hands, programs):
            for end in (3, 7, len(weaving)):
                self.assertEqual(
                    played(fields, hands, programs, weaving[:end]),
                    naive_played(fields, hands, programs, weaving[:end]),
                )


class Ends(unittest.TestCase):
    def test_both_programs_are_empty(self):
        self.assertEqual(ends(A4, (UP1, UP1), ([], [])), [([], [], [0, 0, 0, 0])])
        fields = [("a", 4), ("m", 1)]
        self.assertEqual(ends(fields, (UP1, UP1), ([], [])), [([], [], [0] * 8)])

    def test_one_hand_alone_has_deeds(self):
        program = [LOOK, PUT, LOOK]
        self.assertEqual(ends(A4, (UP1, UP1), (program, [])), [([0, 1234], [], [1, 2, 3, 4])])
        self.assertEqual(ends(A4, (UP1, UP1), ([], program)), [([], [0, 1234], [1, 2, 3, 4])])
        self.assertEqual(ends(A4, (UP1, UP1), ([PUT], [])), [([], [], [1, 2, 3, 4])])

    def test_each_once_and_rising(self):
        self.assertEqual(ends([("a", 2)], (UP1, UP1), ([("put", "a", 12)], [LOOK])), [
            ([], [0], [1, 2]), ([], [2], [1, 2]), ([], [10], [1, 2]), ([], [12], [1, 2]),
        ])
        self.assertEqual(ends([("a", 2)], (UP2, UP2), ([("put", "a", 12)], [LOOK])), [
            ([], [0], [1, 2]), ([], [12], [1, 2]),
        ])

    def test_memories_rise_too(self):
        programs = ([("put", "a", 34)], [("put", "a", 12)])
        self.assertEqual(ends([("a", 2)], (UP1, UP1), programs), [
            ([], [], [1, 2]), ([], [], [1, 4]), ([], [], [3, 2]), ([], [], [3, 4]),
        ])
        self.assertEqual(ends([("a", 2)], (UP2, UP2), programs), [([], [], [1, 2]), ([], [], [3, 4])])

    def test_numbers_of_the_one_rise_first(self):
        programs = ([LOOK, ("put", "a", 5)], [LOOK, ("put", "a", 10)])
        self.assertEqual(ends([("a", 2)], (UP2, UP2), programs), [
            ([0], [0], [0, 5]), ([0], [0], [1, 0]), ([0], [5], [1, 0]), ([10], [0], [0, 5]),
        ])

    def test_numbers_rise_as_numbers_not_as_cells(self):
        small = ("small", 4, 1, "up")
        told = ends([("a", 2)], (UP1, small), ([("put", "a", 12)], [LOOK]))
        self.assertEqual([other for _, other, _ in told], [[0], [1], [20], [21]])

    def test_long_programs(self):
        programs = ([PUT, ("put", "a", 5678), ("put", "a", 9021)], [LOOK, LOOK, LOOK])
        told = ends(A4, (UP1, UP1), programs)
        self.assertEqual(len(told), 10020)
        self.assertEqual(told, sorted(told))
        self.assertEqual(told[0], ([], [0, 0, 0], [9, 0, 2, 1]))
        self.assertEqual(told[-1], ([], [9678, 9678, 9678], [9, 0, 2, 1]))

    def test_against_trying_all(self):
        deeds = (("put", "a", 12), ("look", "a"), ("put", "b", 7), ("look", "b"))
        fields = [("b", 1), ("a", 2)]
        for hands in (
            (("great", 1, 1, "up"), ("small", 2, 1, "down")),
            (("small", 4, 2, "down"), ("great", 1, 1, "up")),
        ):
            for one in product(deeds, repeat=2):
                for other in product(deeds, repeat=2):
                    programs = (list(one), [("put", "a", 34)] + list(other))
                    self.assertEqual(
                        ends(fields, hands, programs), naive_ends(fields, hands, programs)
                    )


if __name__ == "__main__":
    unittest.main()
