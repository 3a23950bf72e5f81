"""The limits and the error classes of the interface."""

import unittest

from samples import any_values
from treewalks import bounds, errors
from treewalks.desks import Desk
from treewalks.renamings import Renaming

WALK_ERRORS = {
    "TooLarge": "limit", "TooMany": "limit", "NoRows": None, "BadRow": "name", "NotAlike": "name", "NoFit": None,
    "NoTree": None, "BadLefts": "lefts", "Twice": "letter", "NoOrder": None, "BadTree": None, "NotOpen": "path",
    "NoLabel": "letter", "NotOneToOne": "letter", "LastNode": None, "NotSearch": "walk", "TooManyEdits": None,
    "NothingToUndo": None, "BadEdits": None, "BadEdit": "index", "Rejected": "index", "Busy": None,
    "BadText": "index",
}
LOOKUP_ERRORS = ("NoPath", "NoKind", "NoPlace", "NoIndex", "NoVersion", "NoLetter")
FIELDS = {**WALK_ERRORS, **{name: "value" for name in LOOKUP_ERRORS}}


class Bounds(unittest.TestCase):
    def test_values(self):
        told = (bounds.MAX_NODES, bounds.MAX_ENTRIES, bounds.EDITS, bounds.BATCH)
        self.assertEqual(repr(told), "(12, 20, 60, 20)")


class Errors(unittest.TestCase):
    def test_base(self):
        self.assertEqual(errors.WalkError.__bases__, (ValueError,))
        self.assertNotIsInstance(errors.WalkError(), LookupError)

    def test_walk_errors_are_value_errors(self):
        for name in WALK_ERRORS:
            with self.subTest(name):
                told = getattr(errors, name)
                self.assertTrue(issubclass(told, errors.WalkError))
                self.assertTrue(issubclass(told, ValueError))
                self.assertFalse(issubclass(told, LookupError))

    def test_lookup_errors_are_no_value_errors(self):
        for name in LOOKUP_ERRORS:
            with self.subTest(name):
                told = getattr(errors, name)
                self.assertTrue(issubclass(told, LookupError))
                self.assertFalse(issubclass(told, (ValueError, KeyError, IndexError)))

    def test_none_derives_from_another(self):
        for name in FIELDS:
            for other in FIELDS:
                if name != other:
                    self.assertFalse(issubclass(getattr(errors, name), getattr(errors, other)), (name, other))

    def test_names(self):
        for name in FIELDS:
            self.assertEqual(getattr(errors, name).__name__, name)

    def test_fields_are_the_very_objects(self):
        for name, field in FIELDS.items():
            for value in any_values() + [["x"], ("l", [2]), Desk((None, "a", None)), Renaming(), errors.Busy()]:
                if field is not None:
                    before = repr(value)
                    made = getattr(errors, name)(value)
                    self.assertIs(getattr(made, field), value)
                    self.assertEqual((repr(value), list(vars(made))), (before, [field]))

    def test_each_is_of_its_class_alone(self):
        for name, field in FIELDS.items():
            made = getattr(errors, name)() if field is None else getattr(errors, name)(5)
            told = [other for other in FIELDS if isinstance(made, getattr(errors, other))]
            self.assertEqual((told, type(made).__name__), ([name], name))
            self.assertEqual(isinstance(made, errors.WalkError), name in WALK_ERRORS)

    def test_objects_keep_their_own_fields(self):
        for name, field in FIELDS.items():
            if field is not None:
                one, other = getattr(errors, name)("one"), getattr(errors, name)("other")
                self.assertEqual((getattr(one, field), getattr(other, field)), ("one", "other"))

    def test_raised_with_and_without_fields(self):
        for name, field in FIELDS.items():
            made = getattr(errors, name)() if field is None else getattr(errors, name)("x")
            with self.assertRaises(getattr(errors, name)) as caught:
                raise made
            self.assertIs(caught.exception, made)
            self.assertIsInstance(str(made), str)


if __name__ == "__main__":
    unittest.main()
