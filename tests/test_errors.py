"""The errors of the interface: their names and how they stand under each other."""

import unittest

from everywish import errors


class Errors(unittest.TestCase):
    def test_any_refusal_is_a_value_error(self):
        self.assertEqual(errors.WishError.__bases__, (ValueError,))

    def test_the_three_stand_directly_under_wish_error(self):
        for name in ("BadGame", "BadRow", "BadText"):
            with self.subTest(name=name):
                self.assertEqual(getattr(errors, name).__bases__, (errors.WishError,))

    def test_all_are_defined_in_their_file(self):
        for name in ("WishError", "BadGame", "BadRow", "BadText"):
            with self.subTest(name=name):
                found = getattr(errors, name)
                self.assertEqual((found.__module__, found.__name__), ("everywish.errors", name))

    def test_none_is_caught_as_another_one(self):
        kinds = (errors.BadGame, errors.BadRow, errors.BadText)
        for kind in kinds:
            for other in kinds:
                with self.subTest(kind=kind, other=other):
                    self.assertEqual(issubclass(kind, other), kind is other)


if __name__ == "__main__":
    unittest.main()
