"""The error classes: their fields and their bases."""

import inspect
import itertools
import unittest

from checks import CheckCase
from paritycells import errors

BASES = {
    "CellError": ValueError,
    "MissingError": LookupError,
    "StateError": RuntimeError,
    "LimitError": ArithmeticError,
}

FIELDS = {
    "CellError": {
        "NoSize": ["value"], "NoCell": ["cell"], "NoCells": ["cells"], "NoFlip": ["why"], "NoTable": ["why"],
        "NoTime": ["time"], "NoStamp": ["stamp"], "NoCount": ["count"], "NoProgram": ["why", "where"],
        "NoHands": ["value"], "NoEntries": ["index"], "NoName": ["name"], "NoText": ["line"],
        "NoCommand": ["command"], "Halted": ["index", "answers"],
    },
    "MissingError": {"NoEntry": ["stamp"], "NoProcedure": ["name"], "NoHand": ["hand"], "NoHistory": ["name"]},
    "StateError": {
        "Taken": ["stamp"], "Standing": ["stamp"], "Removed": ["stamp"], "Folded": ["stamp"], "Clash": ["stamp"],
        "NotOwn": ["stamp"], "NotHeard": ["hand"], "Behind": ["time"], "Unchanged": ["value"], "Known": ["cells"],
        "Unknown": ["cells"],
    },
    "LimitError": {"TooWide": ["needed"], "TooMany": ["limit"], "Unlike": ["one", "other"]},
}

ROWS = [(base, name, fields) for base, names in FIELDS.items() for name, fields in names.items()]


def named(name):
    """Return the error class of this name."""
    return getattr(errors, name)


class ErrorFields(CheckCase):

    def test_there_are_thirty_three(self):
        self.assertEqual(len(ROWS), 33)

    def test_made_by_position(self):
        for base, name, fields in ROWS:
            values = [[name, field] for field in fields]
            with self.subTest(name):
                made = named(name)(*values)
                self.assertEqual(vars(made), dict(zip(fields, values)))
                for field, value in zip(fields, values):
                    self.assertIs(getattr(made, field), value)

    def test_made_by_name(self):
        for base, name, fields in ROWS:
            values = [(name, field) for field in fields]
            with self.subTest(name):
                made = named(name)(**dict(reversed(list(zip(fields, values)))))
                self.assertEqual(vars(made), dict(zip(fields, values)))

    def test_any_value_is_kept(self):
        for value in [None, True, 0, -1, "", "odd", [], [1], (), (1, True), {}, object()]:
            for base, name, fields in ROWS:
                made = named(name)(*[value for field in fields])
                for field in fields:
                    self.assertIs(getattr(made, field), value)

    def test_parameters(self):
        for base, name, fields in ROWS:
            with self.subTest(name):
                self.takes(named(name), *fields)
                with self.assertRaises(TypeError):
                    named(name)()
                with self.assertRaises(TypeError):
                    named(name)(*fields, "more")

    def test_two_errors_share_no_field(self):
        first = errors.NoSize(1)
        second = errors.NoSize(2)
        self.assertEqual([first.value, second.value], [1, 2])


class ErrorBases(CheckCase):

    def test_bases(self):
        for base, python_base in BASES.items():
            self.assertEqual(named(base).__bases__, (python_base,))
        for base, name, fields in ROWS:
            with self.subTest(name):
                self.assertEqual(named(name).__bases__, (named(base),))

    def test_exactly_one_error_of_python(self):
        for base, name, fields in ROWS:
            found = [each for each in BASES.values() if issubclass(named(name), each)]
            self.assertEqual(found, [BASES[base]])

    def test_no_other_relations(self):
        names = list(BASES) + [name for base, name, fields in ROWS]
        expected = sorted((name, base) for base, name, fields in ROWS)
        pairs = itertools.permutations(names, 2)
        found = sorted((one, other) for one, other in pairs if issubclass(named(one), named(other)))
        self.assertEqual(found, expected)

    def test_caught_by_their_bases(self):
        for base, name, fields in ROWS:
            for kind in (named(name), named(base), BASES[base]):
                with self.assertRaises(kind):
                    raise named(name)(*fields)

    def test_defined_in_this_file(self):
        for name in list(BASES) + [name for base, name, fields in ROWS]:
            self.assertTrue(inspect.isclass(named(name)))
            self.assertEqual(named(name).__module__, "paritycells.errors")


if __name__ == "__main__":
    unittest.main()
