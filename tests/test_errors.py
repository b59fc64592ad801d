"""The error classes: base, field and tag of each."""

import unittest

from findforests import errors

VALUE_ERRORS = {
    "BadParent": "node",
    "Cycle": "node",
    "TooManyNodes": "limit",
    "NotRoot": "node",
    "SameRoot": "node",
    "SizesDiffer": "size",
    "RootsDiffer": "node",
    "NoWay": "node",
    "BadStep": "pos",
    "BadCost": "pos",
    "BadSize": "size",
    "BadWeight": "node",
    "BadCount": "count",
    "TooLong": "limit",
    "Contradiction": "pos",
    "BadName": "name",
    "NameTaken": "name",
    "TooManyForests": "limit",
    "TooManyWatches": "limit",
    "BadCommand": "word",
    "ParseError": "pos",
}
LOOKUP_ERRORS = {"NoNode": "node", "NoForest": "name", "NoWatch": "number"}
FIELDS = {**VALUE_ERRORS, **LOOKUP_ERRORS}
BARE = ["ForestError", "Missing", "EmptyHistory"]


def values_of(field):
    """Values that the field may have."""
    if field == "name":
        return ["", "oak", "Not a name", "{x}", "a\nb"]
    if field == "word":
        return ["plant", "", None]
    return [0, 7, -3, 10 ** 30]


class BaseTest(unittest.TestCase):
    def test_common_bases(self):
        self.assertEqual(errors.ForestError.__bases__, (ValueError,))
        self.assertEqual(errors.Missing.__bases__, (LookupError,))
        self.assertEqual(errors.EmptyHistory.__bases__, (IndexError,))

    def test_errors_about_values(self):
        for name in VALUE_ERRORS:
            with self.subTest(name):
                self.assertEqual(getattr(errors, name).__bases__, (errors.ForestError,))

    def test_errors_about_missing_things(self):
        for name in LOOKUP_ERRORS:
            with self.subTest(name):
                self.assertEqual(getattr(errors, name).__bases__, (errors.Missing,))

    def test_no_class_derives_from_another_one(self):
        names = [*FIELDS, "EmptyHistory"]
        for one in names:
            for other in names:
                if one != other:
                    self.assertFalse(issubclass(getattr(errors, one), getattr(errors, other)), (one, other))

    def test_the_two_families_are_apart(self):
        self.assertFalse(issubclass(errors.ForestError, LookupError))
        self.assertFalse(issubclass(errors.Missing, (ValueError, IndexError, KeyError)))
        self.assertFalse(issubclass(errors.EmptyHistory, (errors.Missing, ValueError)))

    def test_names_of_the_classes(self):
        for name in [*FIELDS, *BARE]:
            self.assertEqual(getattr(errors, name).__name__, name)


class FieldTest(unittest.TestCase):
    def test_field_and_tag(self):
        for name, field in FIELDS.items():
            for value in values_of(field):
                with self.subTest(name, value=value):
                    error = getattr(errors, name)(value)
                    self.assertEqual(getattr(error, field), value)
                    self.assertEqual(error.tag, name)
                    self.assertEqual(sorted(error.__dict__), sorted([field, "tag"]))

    def test_empty_history(self):
        error = errors.EmptyHistory()
        self.assertEqual(error.tag, "EmptyHistory")
        self.assertEqual(list(error.__dict__), ["tag"])

    def test_messages_are_strings(self):
        for name, field in FIELDS.items():
            for value in values_of(field):
                self.assertIsInstance(str(getattr(errors, name)(value)), str)
        self.assertIsInstance(str(errors.EmptyHistory()), str)

    def test_caught_by_the_bases(self):
        for name, field in FIELDS.items():
            base = errors.ForestError if name in VALUE_ERRORS else errors.Missing
            with self.assertRaises(base):
                raise getattr(errors, name)(values_of(field)[0])
        with self.assertRaises(IndexError):
            raise errors.EmptyHistory()


if __name__ == "__main__":
    unittest.main()
