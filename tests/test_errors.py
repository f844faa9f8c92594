"""Promises [4] and [95]: the exception classes and their fields."""

import inspect
import unittest

from oathmoot import errors
from tests.samples import OTHER_VALUES

FIELDS = {
    "InvalidName": ("value",), "DuplicateNode": ("name",), "InvalidRequirement": ("name",), "UnknownNode": ("name",),
    "InUse": ("name", "user"), "DisjointQuorums": ("one", "other"), "FaultyNode": ("name",),
    "InvalidBallot": ("value",), "InvalidAnswer": ("value",), "AlreadyVoted": ("name", "ballot"),
    "AlreadyAccepted": ("name", "ballot"), "InvalidMessage": ("value",), "OwnMessage": ("name",), "NotSent": ("name",),
    "NotAccepted": ("name", "ballot"), "InvalidHistory": (), "OtherSender": ("index",), "DuplicateValue": ("value",),
    "UnknownValue": ("value",), "InvalidNumber": ("value",), "NotNominated": ("name", "value"),
    "NotPrepared": ("name", "ballot"), "NotTolerated": (), "NoBallotLeft": (), "UnknownSlot": ("name",),
    "DuplicateSlot": ("name",), "NothingToUndo": (), "NothingToRedo": (), "InvalidText": ("text",),
    "InvalidLine": ("index",), "InvalidCommand": ("line",),
}
CLASSES = {name: getattr(errors, name) for name in FIELDS}
PYTHON_ERRORS = (TypeError, LookupError, ArithmeticError, RuntimeError, AttributeError, UnicodeError, OSError)


class ErrorsTest(unittest.TestCase):

    def test_the_classes_of_the_list_and_no_others(self):
        found = {name for name, kind in vars(errors).items() if inspect.isclass(kind)}
        self.assertEqual(found, set(FIELDS) | {"MootError"})

    def test_moot_error(self):
        self.assertTrue(issubclass(errors.MootError, ValueError))
        self.assertNotIn(errors.MootError, CLASSES.values())
        error = errors.MootError()
        self.assertEqual(vars(error), {})
        with self.assertRaises(ValueError) as caught:
            raise error
        self.assertIs(caught.exception, error)

    def test_direct_subclasses(self):
        for name, kind in CLASSES.items():
            self.assertEqual(kind.__bases__, (errors.MootError,), name)
            self.assertEqual(kind.__name__, name)
            self.assertEqual(kind.__module__, "oathmoot.errors")

    def test_what_they_are_not(self):
        for name, kind in CLASSES.items():
            for other in (*PYTHON_ERRORS, *CLASSES.values()):
                self.assertEqual(issubclass(kind, other), kind is other, name)

    def test_names_of_the_parameters(self):
        for name, fields in FIELDS.items():
            if fields:
                self.assertEqual(tuple(inspect.signature(CLASSES[name]).parameters), fields, name)

    def check_fields(self, error, fields, values):
        self.assertEqual(tuple(vars(error)), fields)
        for field, value in zip(fields, values):
            self.assertIs(getattr(error, field), value)

    def test_any_values_by_position_and_by_name(self):
        values = (*OTHER_VALUES, "a", (1, "x"), [(1, "x")])
        for name, fields in FIELDS.items():
            for at in range(len(values)):
                chosen = (values[at], values[at - 1])[:len(fields)]
                named = dict(zip(fields, chosen))
                backwards = dict(reversed(list(named.items())))
                self.check_fields(CLASSES[name](*chosen), fields, chosen)
                self.check_fields(CLASSES[name](**named), fields, chosen)
                self.check_fields(CLASSES[name](**backwards), fields, chosen)

    def test_first_by_position_and_second_by_name(self):
        error = errors.InUse("a", user="b")
        self.assertEqual((error.name, error.user), ("a", "b"))

    def test_missing_and_surplus_arguments(self):
        for name, fields in FIELDS.items():
            if fields:
                for count in (len(fields) - 1, len(fields) + 1):
                    with self.assertRaises(TypeError):
                        CLASSES[name](*("a",) * count)

    def test_raised_and_caught(self):
        for name, fields in FIELDS.items():
            for wanted in (CLASSES[name], errors.MootError, ValueError):
                error = CLASSES[name](*fields)
                with self.assertRaises(wanted) as caught:
                    raise error
                self.assertIs(caught.exception, error)

    def test_shown_as_text(self):
        for name, fields in FIELDS.items():
            self.assertIsInstance(str(CLASSES[name](*fields)), str)
            self.assertIsInstance(str(CLASSES[name](**dict(zip(fields, fields)))), str)

    def test_not_caught_as_another(self):
        with self.assertRaises(errors.UnknownNode):
            try:
                raise errors.UnknownNode("a")
            except (errors.UnknownSlot, errors.InvalidName, errors.InUse):
                self.fail("caught by a class beside it")


if __name__ == "__main__":
    unittest.main()
