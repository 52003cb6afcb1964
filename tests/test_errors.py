import unittest

from endshare import errors
from endshare.errors import (
    BadDeed, BadFields, BadHand, BadMemory, BadNumber, BadText, NoField, ShareError,
)

REFUSALS = (BadFields, BadHand, BadMemory, NoField, BadNumber, BadDeed, BadText)


class Family(unittest.TestCase):
    def test_share_error_is_a_value_error(self):
        self.assertEqual(ShareError.__bases__, (ValueError,))

    def test_each_refusal_is_a_share_error_and_no_other_refusal(self):
        for refusal in REFUSALS:
            with self.subTest(refusal=refusal.__name__):
                self.assertEqual(refusal.__bases__, (ShareError,))

    def test_each_class_is_defined_in_errors(self):
        for refusal in REFUSALS + (ShareError,):
            with self.subTest(refusal=refusal.__name__):
                self.assertEqual(refusal.__module__, "endshare.errors")
                self.assertIs(getattr(errors, refusal.__name__), refusal)


class Values(unittest.TestCase):
    def test_values_are_set_when_the_object_is_created(self):
        self.assertEqual(vars(BadFields(3)), {"number": 3})
        self.assertEqual(vars(BadHand("wide")), {"why": "wide"})
        self.assertEqual(vars(BadMemory(8)), {"at": 8})
        self.assertEqual(vars(BadDeed(1, 2)), {"hand": 1, "number": 2})
        self.assertEqual(vars(BadText(4)), {"place": 4})

    def test_two_objects_keep_their_own_values(self):
        first, second = BadFields(0), BadFields(6)
        self.assertEqual((first.number, second.number), (0, 6))

    def test_refusals_without_values(self):
        self.assertEqual(vars(NoField("no field is called so")), {})
        self.assertEqual(vars(BadNumber("no such number")), {})

    def test_messages_tell_the_values(self):
        self.assertIn("3", str(BadFields(3)))
        self.assertIn("align", str(BadHand("align")))
        self.assertIn("7", str(BadMemory(7)))
        self.assertIn("1", str(BadDeed(1, 2)))
        self.assertIn("2", str(BadDeed(1, 2)))
        self.assertIn("4", str(BadText(4)))


if __name__ == "__main__":
    unittest.main()
