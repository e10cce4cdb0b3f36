"""Point 3: the refusals."""

import unittest

from emberlane import errors
from tests.helpers import REFUSALS


class RefusalsTest(unittest.TestCase):
    def test_ember_error_stands_straight_under_value_error(self):
        self.assertEqual(errors.EmberError.__bases__, (ValueError,))

    def test_each_refusal_stands_straight_under_ember_error(self):
        for name in REFUSALS:
            with self.subTest(name):
                self.assertEqual(getattr(errors, name).__bases__, (errors.EmberError,))

    def test_no_refusal_stands_under_another(self):
        for name in REFUSALS:
            for other in REFUSALS:
                with self.subTest(name, other=other):
                    told = issubclass(getattr(errors, name), getattr(errors, other))
                    self.assertEqual(told, name == other)

    def test_there_are_no_other_classes(self):
        found = [name for name, thing in vars(errors).items() if isinstance(thing, type)]
        self.assertEqual(sorted(found), sorted(REFUSALS + ("EmberError",)))

    def test_each_is_defined_in_its_file_under_its_name(self):
        for name in REFUSALS + ("EmberError",):
            with self.subTest(name):
                kind = getattr(errors, name)
                self.assertEqual((kind.__module__, kind.__name__), ("emberlane.errors", name))

    def test_those_without_fields_are_made_with_one_text(self):
        for name in REFUSALS[:-1] + ("EmberError",):
            with self.subTest(name):
                refusal = getattr(errors, name)("a text")
                self.assertIsInstance(refusal, ValueError)
                self.assertEqual(str(refusal), "a text")
                self.assertEqual(refusal.args, ("a text",))

    def test_no_text_has_the_field_row_by_place_and_by_name(self):
        for row in (1, 2, 5000):
            self.assertEqual(errors.NoText(row).row, row)
            self.assertEqual(errors.NoText(row=row).row, row)

    def test_no_text_needs_its_field(self):
        with self.assertRaises(TypeError):
            errors.NoText()

    def test_each_is_caught_as_itself_and_not_as_another(self):
        for name in REFUSALS:
            kind = getattr(errors, name)
            made = kind(1) if name == "NoText" else kind("a text")
            for other in REFUSALS:
                with self.subTest(name, other=other):
                    self.assertEqual(isinstance(made, getattr(errors, other)), name == other)


if __name__ == "__main__":
    unittest.main()
