"""The error classes of the interface."""

import unittest

from placedanyhow import errors

KEPT = {
    "TextError": ("line", 7),
    "RuleError": ("rule", "usage"),
    "PlanError": ("reason", "homes"),
    "CodeError": ("at", 0),
    "CommandError": ("line", 12),
}


class ErrorTest(unittest.TestCase):
    def test_each_class_keeps_what_it_is_created_with(self):
        for name, (attribute, kept) in KEPT.items():
            error = getattr(errors, name)(kept)
            self.assertEqual(getattr(error, attribute), kept)
            other = getattr(errors, name)(3)
            self.assertEqual(getattr(other, attribute), 3)

    def test_each_class_is_under_placed_error(self):
        self.assertTrue(issubclass(errors.PlacedError, ValueError))
        for name in KEPT:
            self.assertTrue(issubclass(getattr(errors, name), errors.PlacedError))

    def test_no_class_is_one_of_the_others(self):
        for name in KEPT:
            for other in KEPT:
                related = issubclass(getattr(errors, name), getattr(errors, other))
                self.assertEqual(related, name == other)

    def test_errors_are_caught_as_value_errors(self):
        for name, (_, kept) in KEPT.items():
            with self.assertRaises(ValueError):
                raise getattr(errors, name)(kept)


if __name__ == "__main__":
    unittest.main()
