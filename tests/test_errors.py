"""Promises 2 and 38: the errors, their fields and where they stand."""

import unittest

from tests.helpers import alike, any_values
from treeshed import errors

FIELDS = {
    "BadLetters": ["letters"], "TooMany": ["what", "many", "most"], "BadRow": ["number"], "Lone": ["place"],
    "NoPlace": ["place"], "BadItem": ["number"], "BadKind": ["side", "number"], "BadName": ["name"], "NotExact": [],
    "BadSize": ["size"], "BadValues": ["index"], "BadStatement": ["block", "number"], "BadText": ["line"],
    "BadCall": ["number"], "BadWord": ["number"], "BadValue": ["number"], "BadScript": ["script", "index"],
    "BadAspect": ["index"], "BadWhere": ["number"], "BadRelation": ["relation"], "NoNumber": ["number"],
    "InTheWay": ["number"], "BadPlan": ["field"], "OtherLetters": [], "NoVersion": ["number"], "NoBranch": ["name"],
    "UsedName": ["name"], "NoDeed": ["name"], "BadDeed": ["name"], "BrokenRule": [], "BadRule": ["name"],
    "Ring": ["name"], "NoRule": ["root"], "BadRank": ["number"], "UsedLabel": ["label"], "NoLabel": ["label"],
    "BadLog": ["index"],
}


class ErrorsTest(unittest.TestCase):
    def test_all_errors_are_there_and_no_others(self):
        found = [name for name, value in vars(errors).items() if isinstance(value, type)]
        self.assertEqual(sorted(found), sorted(list(FIELDS) + ["ShedError"]))

    def test_each_stands_directly_below_shed_error(self):
        self.assertEqual(errors.ShedError.__bases__, (ValueError,))
        for name in FIELDS:
            self.assertEqual(getattr(errors, name).__bases__, (errors.ShedError,), name)
            self.assertEqual(getattr(errors, name).__module__, "treeshed.errors")

    def test_fields_by_place(self):
        for name, fields in FIELDS.items():
            told = [f"word {number}" for number in range(len(fields))]
            error = getattr(errors, name)(*told)
            self.assertEqual([getattr(error, field) for field in fields], told, name)
            self.assertEqual(sorted(vars(error)), sorted(fields), name)

    def test_fields_by_name(self):
        for name, fields in FIELDS.items():
            told = {field: f"the {field}" for field in reversed(fields)}
            error = getattr(errors, name)(**told)
            self.assertEqual({field: getattr(error, field) for field in fields}, told, name)

    def test_too_few_and_too_many_fields_are_refused(self):
        for name, fields in FIELDS.items():
            with self.assertRaises(TypeError):
                getattr(errors, name)(*fields, "one more")
            if fields:
                with self.assertRaises(TypeError):
                    getattr(errors, name)(*fields[1:])

    def test_any_values_are_fields(self):
        for name, fields in FIELDS.items():
            for value in any_values():
                error = getattr(errors, name)(*[value for _ in fields])
                for field in fields:
                    self.assertTrue(alike(getattr(error, field), value), name)

    def test_fields_are_copies(self):
        for name, fields in FIELDS.items():
            inner = [1]
            told = [[inner], (inner, {"a": inner}), {"b": [inner]}][:len(fields)]
            error = getattr(errors, name)(*told)
            inner.append(2)
            expected = [[[1]], ([1], {"a": [1]}), {"b": [[1]]}][:len(fields)]
            self.assertEqual([getattr(error, field) for field in fields], expected, name)

    def test_within_one_field_no_two_lists_are_one(self):
        inner = [1]
        field = errors.BadLetters([inner, inner]).letters
        field[0].append(2)
        self.assertEqual([field[1], inner], [[1], [1]])

    def test_errors_are_caught_as_value_errors(self):
        for name, fields in FIELDS.items():
            with self.assertRaises(ValueError):
                raise getattr(errors, name)(*fields)
            self.assertIsInstance(str(getattr(errors, name)(*fields)), str)
