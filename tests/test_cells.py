"""is_cell and cell_tuple."""

import copy
import itertools
import unittest

from checks import CheckCase
from paritycells import cells
from paritycells.cells import MOST_CELLS, cell_tuple, is_cell
from paritycells.errors import NoCells
from strange import LISTS_WITH_DUPLICATES, NOT_CELLS, NOT_INTEGERS

SIZES = range(1, 41)


class MostCells(CheckCase):

    def test_forty(self):
        self.assertEqual(MOST_CELLS, 40)
        self.assertIs(MOST_CELLS.__class__, int)


class IsCell(CheckCase):

    def test_ends_of_each_size(self):
        for size in SIZES:
            with self.subTest(size):
                self.assertIs(is_cell(0, size=size), True)
                self.assertIs(is_cell(size - 1, size=size), True)
                self.assertIs(is_cell(-1, size=size), False)
                self.assertIs(is_cell(size, size=size), False)

    def test_each_integer_around_each_size(self):
        for size in SIZES:
            found = [thing for thing in range(-50, 91) if is_cell(thing, size=size)]
            self.assertEqual(found, list(range(size)))

    def test_default_size(self):
        found = [thing for thing in range(-50, 91) if is_cell(thing)]
        self.assertEqual(found, list(range(40)))

    def test_great_integers(self):
        for thing in [10 ** 18, 10 ** 30, 10 ** 59, -10 ** 30, 2 ** 64, -2 ** 64, 2 ** 64 + 1]:
            self.assertIs(is_cell(thing), False)

    def test_other_values(self):
        for thing in NOT_INTEGERS:
            for size in (1, 2, 40):
                with self.subTest(repr(thing), size=size):
                    self.assertIs(is_cell(thing, size=size), False)
            self.assertIs(is_cell(thing), False)

    def test_arguments(self):
        self.takes(is_cell, "thing", "*", ("size", 40))
        self.assertIs(is_cell(thing=3, size=4), True)
        self.assertIs(is_cell(size=3, thing=3), False)
        with self.assertRaises(TypeError):
            is_cell(3, 4)


class CellTuple(CheckCase):

    def test_ascending(self):
        for order in itertools.permutations([0, 2, 5, 39]):
            self.assertEqual(cell_tuple(list(order)), (0, 2, 5, 39))
            self.assertEqual(cell_tuple(order), (0, 2, 5, 39))

    def test_no_cells(self):
        for size in SIZES:
            self.assertEqual(cell_tuple([], size=size), ())
            self.assertEqual(cell_tuple((), size=size), ())
        self.assertEqual(cell_tuple([]), ())

    def test_all_cells_of_each_size(self):
        for size in SIZES:
            falling = list(range(size))[::-1]
            self.assertEqual(cell_tuple(falling, size=size), tuple(range(size)))
        self.assertEqual(cell_tuple(list(range(40))[::-1]), tuple(range(40)))

    def test_a_tuple_is_returned(self):
        for things in ([], (), [3, 1], (1, 3), (3, 1)):
            self.assertIs(cell_tuple(things).__class__, tuple)

    def test_ends_of_each_size(self):
        for size in SIZES:
            with self.subTest(size):
                self.assertEqual(cell_tuple([size - 1], size=size), (size - 1,))
                for things in ([size], (size,), [-1], [0, size], [size, 0], [0, -1]):
                    self.refuses(NoCells, "cells", things, cell_tuple, things, size=size)

    def test_default_size(self):
        self.assertEqual(cell_tuple([39, 0]), (0, 39))
        self.refuses(NoCells, "cells", [40], cell_tuple, [40])

    def test_duplicates(self):
        for things in LISTS_WITH_DUPLICATES:
            with self.subTest(repr(things)):
                self.refuses(NoCells, "cells", things, cell_tuple, things)

    def test_other_values(self):
        for things in NOT_CELLS:
            for size in (1, 2, 39, 40):
                with self.subTest(repr(things), size=size):
                    with self.assertRaises(NoCells) as caught:
                        cell_tuple(things, size=size)
                    self.assertIs(caught.exception.cells, things)

    def test_bools_are_no_cells(self):
        for things in ([True], [False], (True,), [2, True], [0, True], [False, 1], (1, True), [True, False]):
            self.refuses(NoCells, "cells", things, cell_tuple, things, size=3)

    def test_argument_is_unchanged(self):
        for things in ([3, 1, 2], (3, 1, 2), [], [3, 3], [3, "a", 1], [2, [1]], [40, 1]):
            kept = copy.deepcopy(things)
            try:
                cell_tuple(things)
            except NoCells:
                pass
            self.assertEqual(things, kept)

    def test_later_changes_have_no_effect(self):
        things = [3, 1]
        found = cell_tuple(things)
        things.append(2)
        self.assertEqual(found, (1, 3))

    def test_repeated_call(self):
        things = [3, 1]
        self.assertEqual(cell_tuple(things), cell_tuple(things))

    def test_arguments(self):
        self.takes(cell_tuple, "things", "*", ("size", 40))
        self.assertEqual(cell_tuple(size=4, things=[3, 1]), (1, 3))
        with self.assertRaises(TypeError):
            cell_tuple([3, 1], 4)


class Places(CheckCase):

    def test_defined_in_this_file(self):
        for name in ("is_cell", "cell_tuple"):
            self.assertEqual(getattr(cells, name).__module__, "paritycells.cells")


if __name__ == "__main__":
    unittest.main()
