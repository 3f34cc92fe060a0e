"""Promise 0.3: the error classes, whence they derive and what they keep."""

import inspect
import unittest

from odd import anything
from putoffpiles import errors

FIELDS = {
    "BadBook": ("part",), "BadWorker": ("number",), "Knotted": (), "NoSteps": (), "NoHead": (), "NoRows": (),
    "BadProgram": ("place",), "BadText": ("line",), "TooMany": ("most",), "Unknown": ("name",), "NoPlace": (),
    "NoFunctions": (), "IsOver": (), "BadStep": (), "NoName": (), "NoNote": (), "NothingDone": (), "NoWay": (),
    "NoLot": (), "NoRing": (), "NoNumber": (), "Endless": (), "NoRow": (), "NoMarks": (), "NoRoom": (),
    "BadRow": (), "NoText": (),
}


class ErrorClasses(unittest.TestCase):
    def test_pile_error_derives_directly_from_value_error(self):
        self.assertEqual(errors.PileError.__bases__, (ValueError,))

    def test_each_derives_directly_from_pile_error(self):
        for name in FIELDS:
            with self.subTest(name):
                self.assertEqual(getattr(errors, name).__bases__, (errors.PileError,))

    def test_there_are_no_others(self):
        found = {name for name, thing in vars(errors).items() if inspect.isclass(thing)}
        self.assertEqual(found, set(FIELDS) | {"PileError"})

    def test_each_keeps_its_field_whatever_is_passed(self):
        for name, fields in FIELDS.items():
            for thing in anything() if fields else ():
                with self.subTest(name, thing=type(thing)):
                    error = getattr(errors, name)(thing)
                    self.assertIs(getattr(error, fields[0]), thing)
                    self.assertEqual(list(vars(error)), list(fields))

    def test_those_without_a_field_are_made_of_nothing(self):
        for name, fields in FIELDS.items():
            if not fields:
                with self.subTest(name):
                    self.assertEqual(vars(getattr(errors, name)()), {})

    def test_each_is_made_with_just_its_fields(self):
        for name, fields in FIELDS.items():
            made = getattr(errors, name)
            with self.subTest(name):
                self.assertEqual(list(inspect.signature(made).parameters), list(fields))
                with self.assertRaises(TypeError):
                    made(*([0] * (len(fields) + 1)))
                if fields:
                    with self.assertRaises(TypeError):
                        made()

    def test_each_is_caught_as_what_it_derives_from(self):
        for name, fields in FIELDS.items():
            for base in (ValueError, errors.PileError):
                with self.subTest(name, base=base), self.assertRaises(base):
                    raise getattr(errors, name)(*[3 for _ in fields])


if __name__ == "__main__":
    unittest.main()
