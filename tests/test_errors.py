"""Point 4: the errors, their bases and their fields."""

import unittest

from cutscribe import errors
from cutscribe.errors import CutError

FIELDS = {
    "InvalidText": ("position",),
    "InvalidLexer": ("reason", "mode", "rule"),
    "TooLarge": ("what",),
    "UnknownMode": ("name",),
    "UnknownRule": ("name",),
    "Finished": (),
    "InvalidRange": ("position",),
    "TooLong": ("length",),
    "NotFlat": (),
    "AlphabetMismatch": (),
    "InvalidWord": ("index",),
    "InvalidNotation": ("index",),
    "InvalidName": ("name",),
    "Incompatible": ("document",),
    "UnknownName": ("name",),
    "InUse": ("document",),
    "NameInUse": ("document",),
    "NothingToUndo": (),
    "NothingToRedo": (),
}

VALUES = (0, -1, 10 ** 5000, True, "", "text", "{}", None, (), (1, ("x",)), [], [1, [None]], object())


class Errors(unittest.TestCase):

    def test_there_are_nineteen_besides_the_base(self):
        self.assertEqual(len(FIELDS), 19)
        classes = {name for name, value in vars(errors).items() if isinstance(value, type)}
        self.assertEqual(classes, set(FIELDS) | {"CutError"})

    def test_the_base_is_a_direct_subclass_of_value_error(self):
        self.assertEqual(CutError.__bases__, (ValueError,))

    def test_each_is_a_direct_subclass_of_the_base_and_of_no_other(self):
        for name in FIELDS:
            self.assertEqual(getattr(errors, name).__bases__, (CutError,), name)

    def test_each_is_defined_in_its_file(self):
        for name in FIELDS:
            self.assertEqual(getattr(errors, name).__module__, "cutscribe.errors", name)

    def test_fields_hold_the_very_values_in_order(self):
        for name, fields in FIELDS.items():
            for first in range(len(VALUES)):
                values = [VALUES[(first + step) % len(VALUES)] for step in range(len(fields))]
                error = getattr(errors, name)(*values)
                self.assertEqual(sorted(vars(error)), sorted(fields), name)
                for field, value in zip(fields, values):
                    self.assertIs(getattr(error, field), value, name)

    def test_a_list_that_is_held_is_not_copied_or_changed(self):
        name = ["a"]
        error = errors.InvalidName(name)
        self.assertIs(error.name, name)
        self.assertEqual(name, ["a"])

    def test_each_is_raised_and_caught_by_each_of_its_classes(self):
        for name, fields in FIELDS.items():
            own = getattr(errors, name)
            for caught in (own, CutError, ValueError):
                with self.assertRaises(caught) as held:
                    raise own(*VALUES[:len(fields)])
                self.assertIs(type(held.exception), own)

    def test_none_is_caught_as_another(self):
        for name, fields in FIELDS.items():
            error = getattr(errors, name)(*VALUES[:len(fields)])
            caught_by = [other for other in FIELDS if isinstance(error, getattr(errors, other))]
            self.assertEqual(caught_by, [name])

    def test_the_base_may_be_raised_itself(self):
        with self.assertRaises(ValueError):
            raise CutError()
