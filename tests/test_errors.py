"""Point 6: the error classes and their attributes."""

import unittest

from case import ATTRIBUTES, Case
from twinrope import errors
from twinrope.errors import Apart, BadNet, BadRank, BadStanding, BrokenRow, RopeError


class ErrorClasses(Case):

    def test_every_error_has_its_attributes_in_the_listed_order(self):
        for name, attributes in ATTRIBUTES.items():
            with self.subTest(name):
                values = [f"value {k}" for k in range(len(attributes))]
                error = getattr(errors, name)(*values)
                self.assertEqual([getattr(error, word) for word in attributes], values)

    def test_attributes_are_the_very_values(self):
        error = BadStanding("reds", -1)
        self.assertEqual((error.part, error.place), ("reds", -1))
        error = BrokenRow(3, 10 ** 17, "blue")
        self.assertEqual((error.step, error.rope, error.colour), (3, 10 ** 17, "blue"))
        why = ("book", 0, 1, -1)
        self.assertEqual(Apart(why).why, why)

    def test_the_base_is_a_value_error(self):
        self.assertTrue(issubclass(RopeError, ValueError))
        with self.assertRaises(ValueError):
            raise BadNet(0)

    def test_each_derives_from_the_base_and_from_no_other(self):
        classes = [getattr(errors, name) for name in ATTRIBUTES]
        for one in classes:
            self.assertTrue(issubclass(one, RopeError))
            for other in classes:
                self.assertEqual(issubclass(one, other), one is other)

    def test_a_rank_of_thousands_of_digits(self):
        rank = 10 ** 6000
        error = BadRank(rank)
        self.assertEqual(error.value, rank)
        self.assertIsInstance(str(error), str)


if __name__ == "__main__":
    unittest.main()
