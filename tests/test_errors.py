"""roomstair.errors: every class, made by place and by name."""

import unittest

from cases import Case
from roomstair import errors
from roomstair.errors import BadNumber, BadText, Nothing, StairError

FIELDS = {
    "BadNumber": ("part",),
    "BadRow": ("part",),
    "BadChain": ("part",),
    "BadLabels": ("part",),
    "BadTable": ("part",),
    "BadLabelling": ("part",),
    "BadTeams": ("part",),
    "BadFilling": ("part",),
    "BadOrder": ("part",),
    "BadWeb": ("part",),
    "Misfit": ("part",),
    "NoName": ("value",),
    "Twice": ("value",),
    "TooMany": ("what", "most"),
    "Nothing": (),
    "BadText": ("line", "item"),
    "BadLine": ("line", "error"),
}
OTHER_ERRORS = (ArithmeticError, AttributeError, LookupError, KeyError, IndexError, OSError, RuntimeError, TypeError,
                UnicodeError, AssertionError, StopIteration)
ANY_VALUES = (None, True, 0, -1, "places", "", [1, [2]], (1,), {"a": 1}, object())


class Errors(Case):
    def test_the_base_is_below_value_error(self):
        self.assertEqual(StairError.__bases__, (ValueError,))

    def test_each_one_is_directly_below_the_base(self):
        for name in FIELDS:
            with self.subTest(name):
                self.assertEqual(getattr(errors, name).__bases__, (StairError,))

    def test_none_is_below_another_one_or_another_error_of_python(self):
        made = [getattr(errors, name) for name in FIELDS]
        for one in made:
            self.assertTrue(issubclass(one, ValueError))
            for other in [each for each in made if each is not one] + list(OTHER_ERRORS):
                with self.subTest(one=one, other=other):
                    self.assertFalse(issubclass(one, other))

    def test_fields_by_place_keep_the_very_value(self):
        for name, fields in FIELDS.items():
            for value in ANY_VALUES:
                with self.subTest(name, value=value):
                    error = getattr(errors, name)(*[value for _ in fields])
                    self.assertEqual(sorted(vars(error)), sorted(fields))
                    for field in fields:
                        self.assertIs(getattr(error, field), value)

    def test_fields_by_name_keep_the_very_value(self):
        for name, fields in FIELDS.items():
            for value in ANY_VALUES:
                with self.subTest(name, value=value):
                    error = getattr(errors, name)(**{field: value for field in fields})
                    for field in fields:
                        self.assertIs(getattr(error, field), value)

    def test_the_order_of_the_fields(self):
        self.assertEqual(vars(errors.TooMany("teams", 500)), {"what": "teams", "most": 500})
        self.assertEqual(vars(BadText(0, 5)), {"line": 0, "item": 5})
        self.assertEqual(vars(errors.BadLine(3, "x")), {"line": 3, "error": "x"})

    def test_no_field_may_lack_or_be_one_too_many(self):
        for name, fields in FIELDS.items():
            with self.subTest(name):
                self.assertRaises(TypeError, getattr(errors, name), *range(len(fields) + 1))
                if fields:
                    self.assertRaises(TypeError, getattr(errors, name))

    def test_they_are_caught_as_the_base_and_as_value_errors(self):
        for base in (StairError, ValueError):
            with self.assertRaises(base):
                raise BadNumber("places")
            with self.assertRaises(base):
                raise Nothing()


if __name__ == "__main__":
    unittest.main()
