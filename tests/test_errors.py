"""flagclause/errors.py: the classes, their bases and their attributes."""

import unittest

from flagclause import errors

ATTRIBUTES = {
    "InvalidGrammar": ("part", "index"),
    "UnknownOption": ("name",),
    "InvalidClause": (),
    "InvalidChain": ("index",),
    "Unsatisfiable": (),
    "Conflict": ("chain",),
    "DifferentOptions": (),
    "LineError": ("index",),
    "InvalidToken": ("index",),
    "InvalidValue": (),
    "ParseError": ("index", "reason"),
    "UnmetClause": ("index",),
    "InvalidArguments": ("name",),
    "InvalidLayer": ("index",),
    "InvalidOperation": ("index",),
    "InvalidName": (),
    "UnknownCheckpoint": (),
    "NotationError": ("row", "column"),
    "InvalidCount": (),
    "DecodeError": ("offset",),
}


class ErrorsTest(unittest.TestCase):
    def test_base_class(self):
        self.assertEqual(errors.FlagclauseError.__bases__, (ValueError,))
        self.assertEqual(errors.FlagclauseError.__module__, "flagclause.errors")

    def test_direct_subclasses(self):
        for name in ATTRIBUTES:
            with self.subTest(name):
                found = getattr(errors, name)
                self.assertEqual(found.__bases__, (errors.FlagclauseError,))
                self.assertEqual((found.__name__, found.__module__), (name, "flagclause.errors"))

    def test_no_other_class(self):
        classes = [name for name, value in vars(errors).items() if isinstance(value, type)]
        self.assertEqual(sorted(classes), sorted([*ATTRIBUTES, "FlagclauseError"]))

    def test_attributes_by_position(self):
        for name, attributes in ATTRIBUTES.items():
            values = [f"value of {attribute}" for attribute in attributes]
            with self.subTest(name):
                self.assertEqual(vars(getattr(errors, name)(*values)), dict(zip(attributes, values)))

    def test_attributes_by_keyword(self):
        for name, attributes in ATTRIBUTES.items():
            values = {attribute: f"value of {attribute}" for attribute in attributes}
            with self.subTest(name):
                self.assertEqual(vars(getattr(errors, name)(**values)), values)

    def test_attributes_belong_to_one_object(self):
        first, second = errors.InvalidGrammar("options", 1), errors.InvalidGrammar("clauses", 2)
        self.assertEqual((first.part, first.index, second.part, second.index), ("options", 1, "clauses", 2))

    def test_attribute_may_be_anything(self):
        for name in (None, 5, [], ["a"], ("a",)):
            self.assertEqual(errors.UnknownOption(name).name, name)

    def test_caught_as_value_error(self):
        for name, attributes in ATTRIBUTES.items():
            with self.subTest(name), self.assertRaises(ValueError):
                raise getattr(errors, name)(*attributes)
