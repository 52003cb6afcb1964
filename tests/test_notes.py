"""Point 13: fields as words of a text, and back."""

import unittest
from itertools import product

from endshare.errors import BadFields, BadText, ShareError
from endshare.notes import read_fields, written

SIX = [("a", 1), ("b", 2), ("c", 4), ("d", 1), ("e", 4), ("f", 2)]


class Written(unittest.TestCase):
    def test_words_with_one_blank_between(self):
        self.assertEqual(written([("speed", 4), ("mode", 1)]), "speed:4 mode:1")
        self.assertEqual(written([("a", 2)]), "a:2")
        self.assertEqual(written(SIX), "a:1 b:2 c:4 d:1 e:4 f:2")

    def test_a_text_is_told(self):
        self.assertIs(type(written(SIX)), str)

    def test_fields_that_cannot_be(self):
        for number, fields in (
            (0, []), (0, [("", 1)]), (1, [("a", 1), ("b", 3)]), (1, [("a", 1), ("a", 2)]),
            (0, [("a b", 1)]), (0, [("a:1", 1)]), (6, SIX + [("g", 1)]), (0, [("abcdefg", 1)]),
        ):
            with self.subTest(fields=fields):
                with self.assertRaises(BadFields) as caught:
                    written(fields)
                self.assertEqual(caught.exception.number, number)


class ReadFields(unittest.TestCase):
    def test_the_list_that_was_written(self):
        for many in range(1, 7):
            for sizes in product((1, 2, 4), repeat=many):
                fields = list(zip(("z", "mode", "abcdef", "y", "speeds", "a"), sizes))
                self.assertEqual(read_fields(written(fields)), fields)

    def test_words(self):
        self.assertEqual(read_fields("speed:4 mode:1"), [("speed", 4), ("mode", 1)])
        self.assertEqual(read_fields("z:2"), [("z", 2)])

    def test_kinds_of_values(self):
        told = read_fields("speed:4 mode:1")
        self.assertIs(type(told), list)
        for field in told:
            self.assertIs(type(field), tuple)
            self.assertEqual([type(part) for part in field], [str, int])


class RefusedTexts(unittest.TestCase):
    def check(self, place, text):
        with self.subTest(text=text):
            with self.assertRaises(BadText) as caught:
                read_fields(text)
            self.assertEqual(caught.exception.place, place)

    def test_empty_words(self):
        self.check(0, "")
        self.check(0, " ")
        self.check(0, "  ")
        self.check(0, " a:1")
        self.check(1, "a:1 ")
        self.check(1, "a:1  b:1")
        self.check(2, "a:1 b:1 ")
        self.check(2, "a:1 b:1  c:1")

    def test_words_that_are_not_so(self):
        for word in (
            "a", ":", "1", "a1", "a:", ":1", "a:12", "a:b", "a::1", "a:1:", ":a:1", "a:1:1", "a:-1",
            "a:+", "A:1", "aB:1", "Speed:4", "a-b:1", "a_b:1", "a1:1", "1:1", "a:1,", "a=1", "a;1",
            "a:01", "a:1.", "a.:1", "\"a\":1", "~:1", "a:~", "a:A", "a:/", "a:;", "a: ", "a :1",
        ):
            self.check(0, word)
            if " " not in word:
                self.check(1, "b:1 " + word)
                self.check(2, "b:1 c:2 " + word + " d:4")

    def test_the_first_of_several(self):
        self.check(0, "a b c")
        self.check(1, "a:1 b c")
        self.check(1, "a:1 B:1  c")

    def test_signs_beyond_the_blank_are_no_blanks(self):
        self.check(0, "a:1\tb:1")
        self.check(0, "a:1\n")

    def test_letters_and_figures_beyond_are_none(self):
        for word in ("\u00e9:1", "a\u00df:1", "a:\u0661", "a:\u00b2", "a:\uff11"):
            self.check(0, word)

    def test_texts_go_ahead_of_fields(self):
        self.check(1, "a:3 b")
        self.check(2, "a:1 a:1 ")
        self.check(3, "abcdefg:1 b:9 c:1 D:1")
        self.check(7, "a:1 b:1 c:1 d:1 e:1 f:1 g:1 h")

    def test_long_texts(self):
        self.check(100, "a:1 " * 100)
        self.check(1, "a:1 " + "b" * 996)


class RefusedFields(unittest.TestCase):
    def check(self, number, text):
        with self.subTest(text=text):
            with self.assertRaises(BadFields) as caught:
                read_fields(text)
            self.assertEqual(caught.exception.number, number)

    def test_figures_that_are_no_size(self):
        for size in "0356789":
            self.check(0, f"a:{size}")
            self.check(1, f"a:1 b:{size}")

    def test_names_of_seven_letters(self):
        self.check(0, "abcdefg:1")
        self.check(1, "abcdef:1 abcdefg:1")
        self.check(0, "a" * 998 + ":1")

    def test_a_name_told_twice(self):
        self.check(1, "a:1 a:1")
        self.check(2, "a:1 b:2 a:4")

    def test_a_seventh(self):
        self.check(6, "a:1 b:1 c:1 d:1 e:1 f:1 g:1")
        self.check(6, "a:1 b:1 c:1 d:1 e:1 f:1 a:3")
        self.check(6, " ".join(["a:1", "b:1", "c:1", "d:1", "e:1", "f:1"] + ["g:1"] * 200))

    def test_the_first_of_several(self):
        self.check(1, "a:1 a:3 b:3")

    def test_they_are_refusals(self):
        self.assertTrue(issubclass(BadFields, ShareError) and issubclass(BadText, ShareError))


if __name__ == "__main__":
    unittest.main()
