"""The error classes (the interface of spikehold/errors.py)."""

import unittest

from spikehold.errors import InvalidLine, SpikeholdError, TooSmall


class ErrorsTest(unittest.TestCase):
    def test_base_class_is_a_value_error(self):
        self.assertTrue(issubclass(SpikeholdError, ValueError))

    def test_kinds_derive_from_the_base_class_and_not_from_each_other(self):
        for kind in (TooSmall, InvalidLine):
            self.assertTrue(issubclass(kind, SpikeholdError))
        self.assertFalse(issubclass(TooSmall, InvalidLine))
        self.assertFalse(issubclass(InvalidLine, TooSmall))

    def test_each_has_a_place(self):
        for kind in (SpikeholdError, TooSmall, InvalidLine):
            for place in (0, 7, 499):
                self.assertEqual(kind(place).place, place)
                self.assertIs(type(kind(place).place), int)

    def test_raised_ones_are_caught_with_their_place(self):
        for kind in (SpikeholdError, TooSmall, InvalidLine):
            for caught_as in (kind, SpikeholdError, ValueError):
                with self.assertRaises(caught_as) as told:
                    raise kind(12)
                self.assertEqual(told.exception.place, 12)

    def test_a_place_is_required(self):
        for kind in (SpikeholdError, TooSmall, InvalidLine):
            with self.assertRaises(TypeError):
                kind()

    def test_they_are_equal_to_no_value_of_another_class(self):
        for other in (TooSmall(3), InvalidLine(3), ValueError(3), 3, None):
            self.assertFalse(SpikeholdError(3) == other)


if __name__ == "__main__":
    unittest.main()
