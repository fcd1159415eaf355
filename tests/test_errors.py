"""Point [3]: the errors."""

import unittest

from slideinto import errors

FIELDS = {
    "BadText": ("line", "column"),
    "BadNumber": ("what", "number"),
    "BadName": ("name",),
    "BadCell": ("cell",),
    "BadBody": ("cells",),
    "NoName": ("name",),
    "TakenName": ("name",),
    "NotThere": ("cell",),
    "NoMove": ("start", "end"),
    "TooMany": ("what", "many", "limit"),
    "NotKept": ("promise", "witness"),
    "NothingToUndo": (),
    "NothingToRedo": (),
}


class Unshown:
    def __repr__(self):
        raise RuntimeError("not to be shown")

    __str__ = __repr__


VALUES = (0, None, True, "a text", (1, 2), [], {}, 10 ** 5000, Unshown(), ValueError, object())


class ErrorsTest(unittest.TestCase):
    def test_fields_are_kept_by_place_in_the_told_order(self):
        for name, fields in FIELDS.items():
            for at in range(len(VALUES)):
                told = [VALUES[(at + k) % len(VALUES)] for k in range(len(fields))]
                error = getattr(errors, name)(*told)
                for field, value in zip(fields, told):
                    self.assertIs(getattr(error, field), value, (name, field))

    def test_fields_are_kept_by_name(self):
        for name, fields in FIELDS.items():
            told = {field: object() for field in reversed(fields)}
            error = getattr(errors, name)(**told)
            for field in fields:
                self.assertIs(getattr(error, field), told[field], (name, field))

    def test_a_passed_list_stays_the_same_one(self):
        cells = [3, 1, 2]
        self.assertIs(errors.BadBody(cells).cells, cells)
        self.assertEqual(cells, [3, 1, 2])

    def test_each_is_a_slide_error_and_a_value_error(self):
        self.assertTrue(issubclass(errors.SlideError, ValueError))
        for name, fields in FIELDS.items():
            error = getattr(errors, name)(*fields)
            self.assertIsInstance(error, errors.SlideError, name)
            self.assertIsInstance(error, ValueError, name)

    def test_none_is_one_of_the_other_twelve(self):
        self.assertEqual(len(FIELDS), 13)
        for name in FIELDS:
            for other in FIELDS:
                told = issubclass(getattr(errors, name), getattr(errors, other))
                self.assertEqual(told, name == other, (name, other))

    def test_number_of_values(self):
        for name, fields in FIELDS.items():
            with self.assertRaises(TypeError):
                getattr(errors, name)(*fields, 1)
            if fields:
                with self.assertRaises(TypeError):
                    getattr(errors, name)(*fields[1:])

    def test_each_can_be_raised_and_has_a_message(self):
        for name, fields in FIELDS.items():
            with self.assertRaises(errors.SlideError) as caught:
                raise getattr(errors, name)(*VALUES[-len(fields):][:len(fields)])
            self.assertTrue(str(caught.exception))

    def test_they_are_defined_in_this_file(self):
        for name in (*FIELDS, "SlideError"):
            self.assertEqual(getattr(errors, name).__module__, "slideinto.errors")
