"""The errors: their fields, and which stands below which."""

import unittest

from holegates import errors

FIELDS = {
    "BadTable": ("part",),
    "BadNet": ("part",),
    "BadTask": ("part",),
    "BadFilling": ("part",),
    "BadForm": ("part",),
    "BadNumber": ("part",),
    "BadPaper": ("part",),
    "Misfit": ("part",),
    "Missing": ("value",),
    "NoWire": ("value",),
    "NoHole": ("value",),
    "NoRow": ("value",),
    "NoPlace": ("value",),
    "Twice": ("value",),
    "Impossible": ("paper",),
    "TooMany": ("what", "most"),
    "BadText": ("line", "item"),
}
BELOW_MISSING = ("NoWire", "NoHole", "NoRow", "NoPlace")
ALL_OF_PYTHONS = (ValueError, Exception, BaseException, object)


def values_of_all_kinds():
    """New ones for each call, so that no test sees what another one did to them."""
    return [
        0, 1, -1, 7, 10 ** 99, -(10 ** 5000), "", "net", "a b", "line\n",
        [], [1, [2, "a"]], (), (1, (2, ["a"])), True, False, None, {"a": [1]}, b"x", 1.5, object(), len,
    ]


class FieldsAreKept(unittest.TestCase):
    def assert_kept(self, error, fields, values):
        for field, value in zip(fields, values):
            # The very value: a list stays this list, True does not become 1.
            self.assertIs(getattr(error, field), value)

    def test_each_field_is_kept_as_passed_by_place_and_by_name(self):
        for name, fields in FIELDS.items():
            made = getattr(errors, name)
            values = values_of_all_kinds()
            for at, value in enumerate(values):
                # With two fields the second one gets another value than the first.
                passed = [value, values[at - 1]][:len(fields)]
                with self.subTest(error=name, at=at):
                    self.assert_kept(made(*passed), fields, passed)
                    self.assert_kept(made(**dict(zip(fields, passed))), fields, passed)

    def test_names_may_be_passed_in_any_order(self):
        error = errors.TooMany(most=12, what="unknowns")
        self.assertEqual((error.what, error.most), ("unknowns", 12))
        error = errors.BadText(item=3, line=0)
        self.assertEqual((error.line, error.item), (0, 3))

    def test_a_list_is_kept_and_not_copied(self):
        passed = [1, [2]]
        error = errors.NoRow(passed)
        passed[1].append(3)
        self.assertEqual(error.value, [1, [2, 3]])

    def test_the_line_of_a_bad_text(self):
        error = errors.BadText(0, 8)
        self.assertEqual(error.line, 0)
        self.assertNotIsInstance(error.line, bool)
        self.assertEqual(error.item, 8)

    def test_the_fields_are_there_when_the_error_is_caught(self):
        with self.assertRaises(errors.HoleError) as caught:
            raise errors.TooMany("places", 8)
        self.assertEqual((caught.exception.what, caught.exception.most), ("places", 8))

    def test_a_field_too_few_or_too_many_is_not_taken(self):
        for name, fields in FIELDS.items():
            with self.subTest(error=name):
                with self.assertRaises(TypeError):
                    getattr(errors, name)(*fields[1:])
                with self.assertRaises(TypeError):
                    getattr(errors, name)(*fields, 0)


class WhichStandsBelowWhich(unittest.TestCase):
    def test_the_base_is_directly_below_value_error(self):
        self.assertEqual(errors.HoleError.__mro__, (errors.HoleError,) + ALL_OF_PYTHONS)

    def test_each_error_is_a_hole_error_and_a_value_error(self):
        for name, fields in FIELDS.items():
            error = getattr(errors, name)(*fields)
            with self.subTest(error=name):
                self.assertIsInstance(error, errors.HoleError)
                self.assertIsInstance(error, ValueError)

    def test_four_stand_below_missing_and_the_others_directly_below_the_base(self):
        for name in FIELDS:
            made = getattr(errors, name)
            between = (errors.Missing,) if name in BELOW_MISSING else ()
            with self.subTest(error=name):
                self.assertEqual(made.__mro__, (made,) + between + (errors.HoleError,) + ALL_OF_PYTHONS)

    def test_an_error_is_caught_as_no_other_one(self):
        for name, fields in FIELDS.items():
            error = getattr(errors, name)(*fields)
            for other in FIELDS:
                below = other == name or (other == "Missing" and name in BELOW_MISSING)
                with self.subTest(error=name, other=other):
                    self.assertEqual(isinstance(error, getattr(errors, other)), below)

    def test_each_error_is_defined_in_this_file(self):
        for name in ["HoleError", *FIELDS]:
            with self.subTest(error=name):
                self.assertEqual(getattr(errors, name).__module__, "holegates.errors")
                self.assertEqual(getattr(errors, name).__name__, name)
