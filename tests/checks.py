"""What several test files do: expecting an error with its fields, and all subsets of some cells."""

import inspect
import itertools
import unittest

EMPTY = inspect.Parameter.empty


class CheckCase(unittest.TestCase):
    """A test case that looks at the fields of errors and at signatures."""

    def fails(self, error, fields, call, *values, **named):
        """Expect exactly this error, with these fields, and return it."""
        with self.assertRaises(error) as caught:
            call(*values, **named)
        self.assertEqual(caught.exception.__class__, error)
        self.assertEqual(vars(caught.exception), fields)
        return caught.exception

    def refuses(self, error, field, value, call, *values, **named):
        """Expect exactly this error, and the very value that was passed as its only field."""
        raised = self.fails(error, {field: value}, call, *values, **named)
        self.assertIs(vars(raised)[field].__class__, value.__class__)

    def takes(self, call, *expected):
        """Expect these parameters: a name, a name with a default, and after "*" by keyword only."""
        kind = inspect.Parameter.POSITIONAL_OR_KEYWORD
        wanted = []
        for part in expected:
            if part == "*":
                kind = inspect.Parameter.KEYWORD_ONLY
                continue
            name, default = part if isinstance(part, tuple) else (part, EMPTY)
            wanted.append((name, kind, default))
        found = [(each.name, each.kind, each.default) for each in inspect.signature(call).parameters.values()]
        self.assertEqual(found, wanted)


def subsets(cells):
    """Return all subsets of the cells, as tuples."""
    cells = list(cells)
    return [chosen for many in range(len(cells) + 1) for chosen in itertools.combinations(cells, many)]
