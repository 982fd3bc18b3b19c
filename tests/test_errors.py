import unittest

from latelands import errors
from tests.helpers import odd_values

# For each class its base and its fields, as DOC.md lists them.
CLASSES = {
    "LandError": (ValueError, ()),
    "InvalidMachine": (errors.LandError, ("reason",)),
    "InvalidCode": (errors.LandError, ("reason", "row")),
    "InvalidWay": (errors.LandError, ("index",)),
    "InvalidBreaks": (errors.LandError, ("index",)),
    "InvalidMap": (errors.LandError, ("index",)),
    "InvalidText": (errors.LandError, ("line", "word")),
    "InvalidLimit": (errors.LandError, ("value",)),
    "Clash": (errors.LandError, ("way", "name")),
    "UnknownCommand": (errors.LandError, ("line",)),
    "NoName": (KeyError, ("name",)),
    "NoPoint": (KeyError, ("point",)),
    "NoRow": (IndexError, ("row",)),
    "NoStep": (IndexError, ("step",)),
    "NothingToUndo": (LookupError, ("count",)),
    "Ended": (RuntimeError, ()),
    "HeldGap": (RuntimeError, ("row",)),
    "NoWay": (RuntimeError, ("row",)),
    "TooMany": (OverflowError, ("most",)),
}


class ErrorsTest(unittest.TestCase):

    def each(self):
        return [(getattr(errors, name), base, fields) for name, (base, fields) in CLASSES.items()]

    def test_each_class_is_there_with_its_own_base(self):
        for made, base, _ in self.each():
            self.assertEqual(made.__bases__, (base,))
            self.assertEqual(made.__module__, "latelands.errors")

    def test_no_class_is_under_another_one(self):
        for made, base, _ in self.each():
            for name in CLASSES:
                other = getattr(errors, name)
                self.assertEqual(issubclass(made, other), other in (made, base), name)
        self.assertFalse(issubclass(errors.NothingToUndo, (KeyError, IndexError)))
        self.assertFalse(issubclass(errors.LandError, (LookupError, RuntimeError, OverflowError)))

    def test_fields_by_position(self):
        for made, _, fields in self.each():
            values = [object() for _ in fields]
            error = made(*values)
            for field, value in zip(fields, values):
                self.assertIs(getattr(error, field), value)

    def test_fields_by_name_in_any_order(self):
        for made, _, fields in self.each():
            values = {field: object() for field in reversed(fields)}
            error = made(**values)
            for field in fields:
                self.assertIs(getattr(error, field), values[field])

    def test_fields_are_kept_whatever_they_are(self):
        for made, _, fields in self.each():
            for value in odd_values():
                error = made(*[value for _ in fields])
                for field in fields:
                    self.assertIs(getattr(error, field), value)

    def test_wrong_numbers_of_fields(self):
        for made, _, fields in self.each():
            if fields:
                self.assertRaises(TypeError, made)
                self.assertRaises(TypeError, made, *fields, "more")

    def test_they_are_raised_and_caught_by_their_bases(self):
        for made, base, fields in self.each():
            with self.assertRaises(base) as caught:
                raise made(*fields)
            self.assertIs(caught.exception.__class__, made)
            self.assertEqual(repr(caught.exception), f"{made.__name__}({', '.join(map(repr, fields))})"
                             if fields else f"{made.__name__}()")

    def test_nothing_else_is_an_error_of_the_package(self):
        found = [name for name, value in vars(errors).items() if isinstance(value, type)]
        self.assertEqual(sorted(found), sorted(CLASSES))


if __name__ == "__main__":
    unittest.main()
