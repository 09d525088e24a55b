"""The classes of refusals: what point 14 and the interface say of them."""

import unittest

from lotbook import errors
from lotbook.errors import ShareError
from lotbook.sharing import parts

KINDS = ["BadDay", "BadNumber", "SameHands", "TooFew", "Uneven", "NoDays", "NoDeed"]


class Refusals(unittest.TestCase):
    def test_any_refusal_is_right_under_value_error(self):
        self.assertEqual(ShareError.__bases__, (ValueError,))

    def test_each_kind_is_right_under_share_error(self):
        for name in KINDS:
            with self.subTest(name):
                self.assertEqual(getattr(errors, name).__bases__, (ShareError,))

    def test_no_kind_is_under_another_one(self):
        for name in KINDS:
            for other in KINDS:
                if name != other:
                    with self.subTest(name, other=other):
                        self.assertFalse(issubclass(getattr(errors, name), getattr(errors, other)))

    def test_each_class_is_defined_in_errors_under_its_own_name(self):
        for name in ["ShareError", *KINDS]:
            with self.subTest(name):
                kind = getattr(errors, name)
                self.assertEqual((kind.__module__, kind.__name__), ("lotbook.errors", name))

    def test_each_kind_is_caught_as_itself_and_as_any_refusal(self):
        for name in KINDS:
            kind = getattr(errors, name)
            for caught in (kind, ShareError, ValueError):
                with self.subTest(name, caught=caught.__name__):
                    with self.assertRaises(caught):
                        raise kind("refused")


class RefusalOfParts(unittest.TestCase):
    def test_it_is_caught_by_except_share_error(self):
        try:
            parts(5, [])
        except ShareError as refusal:
            self.assertIs(type(refusal), errors.NoDays)
        else:
            self.fail("not refused")

    def test_it_is_caught_by_except_value_error(self):
        try:
            parts(5, [0, 0])
        except ValueError as refusal:
            self.assertIs(type(refusal), errors.NoDays)
        else:
            self.fail("not refused")


if __name__ == "__main__":
    unittest.main()
