"""The refusals, and how they stand to one another."""

import unittest

from pushshelf import errors
from pushshelf.errors import NoDoing, NoPush, NoRow, NoShelf, NoStand, NoWish, ShelfError

REFUSALS = [NoShelf, NoStand, NoRow, NoDoing, NoPush, NoWish]


class Errors(unittest.TestCase):
    def test_every_refusal_is_a_shelf_error_and_a_value_error(self):
        self.assertTrue(issubclass(ShelfError, ValueError))
        for refusal in REFUSALS:
            self.assertTrue(issubclass(refusal, ShelfError))
            self.assertIsNot(refusal, ShelfError)

    def test_no_refusal_stands_under_another_one(self):
        for one in REFUSALS:
            for two in REFUSALS:
                self.assertEqual(issubclass(one, two), one is two)

    def test_refusals_are_made_of_a_text(self):
        for refusal in REFUSALS + [ShelfError]:
            self.assertEqual(str(refusal("a text")), "a text")

    def test_they_are_defined_in_their_file(self):
        for refusal in REFUSALS + [ShelfError]:
            self.assertEqual(refusal.__module__, errors.__name__)


if __name__ == "__main__":
    unittest.main()
