"""Tables: what they are made of, how they are compared and written, applied, composed and inverted."""

import itertools
import unittest
from unittest import mock

from checks import CheckCase, subsets
from models import (
    SIZES, all_bits, all_flips, all_rows, are_independent_rows, bits_after, bits_of, board_of, chance_for, parity_of,
    some_bits, some_cells, some_flips, sum_of,
)
from paritycells import tables
from paritycells.boards import Board
from paritycells.errors import NoCell, NoCells, NoSize, NoTable, TooWide, Unlike
from paritycells.flips import Flip, add_flip, swap_flip, turn_flip
from paritycells.sequences import apply_flips, reversed_flips
from paritycells.tables import Table, are_alike, identity_table, table_of
from strange import LISTS_WITH_DUPLICATES, NOT_CELLS, NOT_INTEGERS, NOT_LISTS, Thing, knotted

METHODS = ("size", "row", "source", "image", "then", "inverse", "is_identity")
NOT_SIZES = NOT_INTEGERS + [0, -1, 41, 42, 10 ** 30, -10 ** 30]


def single_rows(size):
    """Return the rows of the identity."""
    return [[cell] for cell in range(size)]


def rows_of(table):
    """Return all rows of a table."""
    return [table.row(cell) for cell in range(table.size())]


def bits_by_rows(rows, bits):
    """Return the states after a table with these rows."""
    return [parity_of(bits, row) for row in rows]


def some_table(chance, size):
    """Return some table of a size, with the flips that it is made of."""
    flips = some_flips(chance, size, 3 * size)
    return table_of(size, flips), flips


class Made(CheckCase):

    def test_all_lists_of_rows_of_small_sizes(self):
        for size in range(1, 4):
            for rows in itertools.product(subsets(range(size)), repeat=size):
                if rows[0] != (0,):
                    self.fails(NoTable, {"why": "first"}, Table, rows)
                elif not are_independent_rows(rows):
                    self.fails(NoTable, {"why": "singular"}, Table, rows)
                else:
                    self.assertEqual(rows_of(Table(rows)), list(rows))

    def test_all_tables_of_four_cells(self):
        every = all_rows(4)
        self.assertEqual(len(every), 1344)
        for rows in every:
            self.assertEqual(rows_of(Table(rows)), rows)

    def test_each_size(self):
        for size in SIZES:
            table = Table(single_rows(size))
            self.assertEqual([table.size(), len(table)], [size, size])
            self.assertEqual(rows_of(table), [(cell,) for cell in range(size)])
            falling = Table([[0]] + [list(range(cell, -1, -1)) for cell in range(1, size)])
            self.assertEqual(rows_of(falling), [tuple(range(cell + 1)) for cell in range(size)])

    def test_lists_and_tuples(self):
        for rows in ([[0], [1], [2, 1]], ((0,), (1,), (2, 1)), [(0,), [1], (1, 2)], ([0], (1,), [1, 2])):
            table = Table(rows)
            self.assertEqual(rows_of(table), [(0,), (1,), (1, 2)])
            self.assertIs(table.row(2).__class__, tuple)

    def test_not_a_list(self):
        for rows in NOT_LISTS:
            with self.subTest(repr(rows)):
                self.fails(NoTable, {"why": "rows"}, Table, rows)
        self.fails(NoTable, {"why": "rows"}, Table, {0: [0]})
        self.fails(NoTable, {"why": "rows"}, Table, Table([[0]]))
        self.fails(NoTable, {"why": "rows"}, Table, knotted())

    def test_number_of_rows(self):
        for rows in ([], ()):
            self.fails(NoTable, {"why": "rows"}, Table, rows)
        self.assertEqual(Table(single_rows(40)).size(), 40)
        self.fails(NoTable, {"why": "rows"}, Table, single_rows(41))
        self.fails(NoTable, {"why": "rows"}, Table, [[0]] + [[cell % 40] for cell in range(1, 41)])
        self.fails(NoTable, {"why": "rows"}, Table, [[0]] * 41)
        self.fails(NoTable, {"why": "rows"}, Table, [[0]] * 300)

    def test_a_row_that_is_no_cells(self):
        for size in (1, 2, 3, 40):
            for wrong in NOT_CELLS + [[size], (size,), [0, size], [-1]]:
                for place in {0, size // 2, size - 1}:
                    rows = single_rows(size)
                    rows[place] = wrong
                    with self.subTest(repr(wrong), size=size, place=place):
                        self.fails(NoTable, {"why": "rows"}, Table, rows)

    def test_a_bool_in_a_row(self):
        for rows in ([[False]], [[0], [True]], [[0], [1, False]], ((0,), (True,), (2,)), [[0], [1], [2, True]]):
            self.fails(NoTable, {"why": "rows"}, Table, rows)

    def test_a_cell_twice(self):
        for row in LISTS_WITH_DUPLICATES:
            self.fails(NoTable, {"why": "rows"}, Table, single_rows(39) + [row])

    def test_rows_ahead_of_first_and_singular(self):
        self.fails(NoTable, {"why": "rows"}, Table, [[1], [3], [2]])
        self.fails(NoTable, {"why": "rows"}, Table, [[], [1], "2"])
        self.fails(NoTable, {"why": "rows"}, Table, [[0], [], [3]])
        self.fails(NoTable, {"why": "rows"}, Table, [[0], [1], [1], [4]])

    def test_first(self):
        for row in ([], [1], [0, 1], [1, 0], [0, 1, 2], [2]):
            self.fails(NoTable, {"why": "first"}, Table, [row, [1], [2]])
        self.fails(NoTable, {"why": "first"}, Table, [[]])
        self.fails(NoTable, {"why": "first"}, Table, [[1], [0]])
        self.fails(NoTable, {"why": "first"}, Table, single_rows(40)[::-1])

    def test_first_ahead_of_singular(self):
        self.fails(NoTable, {"why": "first"}, Table, [[1], [1]])
        self.fails(NoTable, {"why": "first"}, Table, [[0, 1], [], []])

    def test_singular(self):
        for rows in (
            [[0], [0]], [[0], []], [[0], [1], [1]], [[0], [1], []], [[0], [1], [0, 1]], [[0], [1, 2], [0, 1, 2]],
            [[0], [1, 2], [2, 3], [1, 3]], [[0], [1, 2], [2, 3], [3, 1, 0]],
        ):
            self.fails(NoTable, {"why": "singular"}, Table, rows)

    def test_singular_of_40_cells(self):
        for wrong in ([], [0], [1], [38], list(range(39)), [0, 1, 38]):
            self.fails(NoTable, {"why": "singular"}, Table, single_rows(39) + [wrong])
        self.assertEqual(Table(single_rows(39) + [list(range(40))]).size(), 40)

    def test_later_changes_and_arguments(self):
        rows = [[0], [1], [2, 1]]
        table = Table(rows)
        self.assertEqual(rows, [[0], [1], [2, 1]])
        rows[1].append(2)
        rows[2].clear()
        rows.append([3])
        self.assertEqual(repr(table), "Table([[0], [1], [1, 2]])")

    def test_arguments(self):
        self.takes(Table, "rows")
        self.assertEqual(Table(rows=[[0], [1]]), Table([[0], [1]]))


class Compared(CheckCase):

    def test_equal_exactly_if_rows_are(self):
        every = [(rows, Table(rows)) for size in range(1, 4) for rows in all_rows(size)]
        for (rows, one), (other_rows, other) in itertools.product(every, repeat=2):
            self.assertIs(one == other, rows == other_rows)
            self.assertIs(one != other, rows != other_rows)

    def test_order_and_kind_of_lists_have_no_effect(self):
        self.assertTrue(Table([[0], [1], [2, 1]]) == Table(((0,), (1,), (1, 2))))

    def test_nothing_else(self):
        table = Table([[0], [1]])
        others = [
            None, True, 2, "Table([[0], [1]])", [[0], [1]], ((0,), (1,)), [(0,), (1,)], (1, 2), {0: [0]}, object(),
            Thing(), Table, Board(2), Flip([], []), mock.ANY,
        ]
        for other in others:
            with self.subTest(repr(other)):
                self.assertIs(table == other, False)
                self.assertIs(table != other, True)

    def test_another_object_with_the_same_fields(self):
        table = Table([[0], [1]])
        thing = Thing()
        vars(thing).update(vars(table))
        self.assertIs(table == thing, False)

    def test_repr(self):
        self.assertEqual(repr(Table([[0]])), "Table([[0]])")
        self.assertEqual(repr(Table(((0,), (1, 0), (2, 1)))), "Table([[0], [0, 1], [1, 2]])")
        for rows in all_rows(3):
            table = Table(rows)
            self.assertEqual(repr(table), f"Table({[list(row) for row in rows]})")
            self.assertEqual(eval(repr(table)), table)


class Rows(CheckCase):

    def test_row_no_cell(self):
        for size in (1, 2, 40):
            table = identity_table(size)
            for cell in NOT_INTEGERS + [-1, -size, size, size + 1, 41, 10 ** 30]:
                with self.subTest(repr(cell), size=size):
                    with self.assertRaises(NoCell) as caught:
                        table.row(cell)
                    self.assertIs(caught.exception.cell, cell)

    def test_source_of_all_cells_of_small_sizes(self):
        for size in range(1, 4):
            for rows in all_rows(size):
                table = Table(rows)
                for cells in subsets(range(size)):
                    expected = tuple(sorted(sum_of([rows[cell] for cell in cells])))
                    for given in (cells, list(cells)[::-1]):
                        found = table.source(given)
                        self.assertEqual(found, expected)
                        self.assertIs(found.__class__, tuple)

    def test_source_by_parities(self):
        for rows in all_rows(4)[::7]:
            table = Table(rows)
            for cells, bits in itertools.product(subsets(range(4)), all_bits(4)):
                after = bits_of(table.image(board_of(bits)))
                self.assertEqual(parity_of(bits, table.source(cells)), parity_of(after, cells))

    def test_source_of_40_cells(self):
        chance = chance_for("source")
        table, flips = some_table(chance, 40)
        for index in range(20):
            cells, bits = some_cells(chance, 40), some_bits(chance, 40)
            chance.shuffle(cells)
            self.assertEqual(parity_of(bits, table.source(cells)), parity_of(bits_after(bits, flips), cells))

    def test_source_no_cells(self):
        for size in (1, 2, 40):
            table = identity_table(size)
            for cells in NOT_CELLS + [[size], (0, size)]:
                with self.subTest(repr(cells), size=size):
                    with self.assertRaises(NoCells) as caught:
                        table.source(cells)
                    self.assertIs(caught.exception.cells, cells)

    def test_source_argument_is_unchanged(self):
        cells = [2, 1]
        Table([[0], [1], [2, 1]]).source(cells)
        self.assertEqual(cells, [2, 1])

    def test_arguments(self):
        table = Table([[0], [1], [2, 1]])
        self.takes(table.row, "cell")
        self.takes(table.source, "cells")
        self.assertEqual([table.row(cell=2), table.source(cells=[1, 2])], [(1, 2), (2,)])


class Image(CheckCase):

    def test_all_tables_on_all_boards_of_small_sizes(self):
        for size in range(1, 5):
            for rows in all_rows(size):
                table = Table(rows)
                for bits in all_bits(size):
                    found = table.image(board_of(bits))
                    self.assertIs(found.__class__, Board)
                    self.assertEqual(bits_of(found), bits_by_rows(rows, bits))

    def test_as_the_flips_do(self):
        for size in SIZES:
            chance = chance_for("image", size)
            table, flips = some_table(chance, size)
            bits = some_bits(chance, size)
            self.assertEqual(bits_of(table.image(board_of(bits))), bits_after(bits, flips))

    def test_unlike(self):
        for size, other in itertools.permutations((1, 2, 3, 39, 40), 2):
            self.fails(Unlike, {"one": size, "other": other}, identity_table(size).image, Board(other))

    def test_board_stays_as_it_is(self):
        board = Board(3, up=[1])
        table = Table([[0], [1], [2, 1]])
        table.image(board)
        self.assertEqual([board, table], [Board(3, up=[1]), Table([[0], [1], [1, 2]])])

    def test_arguments(self):
        table = Table([[0], [1], [2, 1]])
        self.takes(table.image, "board")
        self.assertEqual(str(table.image(board=Board(3, up=[1]))), "111")


class Then(CheckCase):

    def test_all_pairs_on_all_boards_of_small_sizes(self):
        for size in range(1, 4):
            for rows, later_rows in itertools.product(all_rows(size), repeat=2):
                found = Table(rows).then(Table(later_rows))
                self.assertIs(found.__class__, Table)
                for bits in all_bits(size):
                    expected = bits_by_rows(later_rows, bits_by_rows(rows, bits))
                    self.assertEqual(bits_by_rows(rows_of(found), bits), expected)

    def test_as_one_sequence_after_the_other(self):
        for size in SIZES:
            chance = chance_for("then", size)
            table, flips = some_table(chance, size)
            later, later_flips = some_table(chance, size)
            self.assertEqual(table.then(later), table_of(size, flips + later_flips))

    def test_unlike(self):
        for size, other in itertools.permutations((1, 2, 3, 39, 40), 2):
            self.fails(Unlike, {"one": size, "other": other}, identity_table(size).then, identity_table(other))

    def test_tables_stay_as_they_are(self):
        table, later = Table([[0], [1], [2, 1]]), Table([[0], [2], [1]])
        table.then(later)
        self.assertEqual([table, later], [Table([[0], [1], [2, 1]]), Table([[0], [2], [1]])])

    def test_arguments(self):
        table = Table([[0], [1], [2, 1]])
        self.takes(table.then, "later")
        self.assertEqual(table.then(later=table), identity_table(3))


class Inverse(CheckCase):

    def test_all_tables_of_small_sizes(self):
        for size in range(1, 5):
            for rows in all_rows(size):
                table = Table(rows)
                inverse = table.inverse()
                self.assertIs(inverse.__class__, Table)
                for bits in all_bits(size):
                    self.assertEqual(bits_by_rows(rows_of(inverse), bits_by_rows(rows, bits)), bits)
                self.assertEqual(table, Table(rows))

    def test_each_size(self):
        for size in SIZES:
            table, flips = some_table(chance_for("inverse", size), size)
            self.assertEqual(table.inverse(), table_of(size, reversed_flips(flips)))
            self.assertTrue(table.then(table.inverse()).is_identity())
            self.assertTrue(table.inverse().then(table).is_identity())
            self.assertEqual(table.inverse().inverse(), table)


class Identity(CheckCase):

    def test_is_identity_of_all_tables_of_small_sizes(self):
        for size in range(1, 5):
            for rows in all_rows(size):
                self.assertIs(Table(rows).is_identity(), rows == [(cell,) for cell in range(size)])

    def test_identity_table(self):
        for size in SIZES:
            table = identity_table(size)
            self.assertEqual(table, Table(single_rows(size)))
            self.assertIs(table.is_identity(), True)
            bits = some_bits(chance_for("identity", size), size)
            self.assertEqual(bits_of(table.image(board_of(bits))), bits)

    def test_no_size(self):
        for value in NOT_SIZES:
            with self.subTest(repr(value)):
                with self.assertRaises(NoSize) as caught:
                    identity_table(value)
                self.assertIs(caught.exception.value, value)

    def test_arguments(self):
        self.takes(identity_table, "size")
        self.assertEqual(identity_table(size=3), Table(single_rows(3)))


class TableOf(CheckCase):

    def test_all_pairs_of_flips_of_small_sizes(self):
        for size in range(1, 4):
            for flips in itertools.product(all_flips(size), repeat=2):
                table = table_of(size, flips)
                for bits in all_bits(size):
                    self.assertEqual(bits_by_rows(rows_of(table), bits), bits_after(bits, flips))

    def test_each_size(self):
        for size in SIZES:
            chance = chance_for("table of", size)
            for many in (0, 1, 2, 30):
                flips = some_flips(chance, size, many)
                table = table_of(size, flips)
                self.assertEqual(table.size(), size)
                self.assertEqual(table, table_of(size, tuple(flips)))
                for index in range(3):
                    bits = some_bits(chance, size)
                    self.assertEqual(bits_by_rows(rows_of(table), bits), bits_after(bits, flips))

    def test_two_hundred_flips(self):
        chance = chance_for("two hundred")
        flips = some_flips(chance, 40, 200)
        bits = some_bits(chance, 40)
        self.assertEqual(bits_by_rows(rows_of(table_of(40, flips)), bits), bits_after(bits, flips))

    def test_no_size_ahead_of_too_wide(self):
        for value in NOT_SIZES:
            for flips in ([], [turn_flip(39)]):
                with self.subTest(repr(value)):
                    with self.assertRaises(NoSize) as caught:
                        table_of(value, flips)
                    self.assertIs(caught.exception.value, value)

    def test_too_wide_for_the_first_flip_that_does_not_fit(self):
        fits, five, six = turn_flip(3), turn_flip(4), turn_flip(5)
        self.fails(TooWide, {"needed": 5}, table_of, 4, [fits, five, six])
        self.fails(TooWide, {"needed": 6}, table_of, 4, (fits, six, five))
        self.fails(TooWide, {"needed": 7}, table_of, 4, [Flip([6], []), five])
        self.fails(TooWide, {"needed": 40}, table_of, 39, [Flip([], [39])])
        self.fails(TooWide, {"needed": 2}, table_of, 1, [Flip([1], [])])
        self.assertEqual(table_of(5, [fits, five]).row(4), (0, 4))

    def test_arguments_are_unchanged(self):
        flips = [add_flip(1, to=2), turn_flip(1)]
        table = table_of(3, flips)
        self.assertEqual(flips, [add_flip(1, to=2), turn_flip(1)])
        flips.clear()
        self.assertEqual(repr(table), "Table([[0], [0, 1], [1, 2]])")

    def test_arguments(self):
        self.takes(table_of, "size", "flips")
        self.assertEqual(table_of(flips=[add_flip(1, to=2)], size=3), Table([[0], [1], [1, 2]]))


class Alike(CheckCase):

    def test_by_all_boards_of_small_sizes(self):
        for size in range(1, 4):
            every = [[]] + [[flip] for flip in all_flips(size)]
            chance = chance_for("alike", size)
            every += [some_flips(chance, size, 2) for index in range(20)]
            for one, other in itertools.product(every, repeat=2):
                same = all(bits_after(bits, one) == bits_after(bits, other) for bits in all_bits(size))
                self.assertIs(are_alike(size, one, other), same)

    def test_lists_and_tuples(self):
        swap = [add_flip(1, to=2), add_flip(2, to=1), add_flip(1, to=2)]
        self.assertIs(are_alike(3, swap, (swap_flip(1, 2),)), True)
        self.assertIs(are_alike(40, tuple(swap), [swap_flip(2, 1)]), True)
        self.assertIs(are_alike(3, swap, swap[:2]), False)

    def test_a_sequence_and_its_reverse(self):
        chance = chance_for("undone")
        for size in SIZES:
            flips = some_flips(chance, size, 10)
            self.assertIs(are_alike(size, flips + reversed_flips(flips), []), True)

    def test_no_size(self):
        for value in NOT_SIZES:
            for one, other in (([], []), ([turn_flip(39)], []), ([], [turn_flip(39)])):
                with self.subTest(repr(value)):
                    with self.assertRaises(NoSize) as caught:
                        are_alike(value, one, other)
                    self.assertIs(caught.exception.value, value)

    def test_too_wide_of_one_and_then_of_the_other(self):
        fits, five, six = turn_flip(3), turn_flip(4), turn_flip(5)
        self.fails(TooWide, {"needed": 5}, are_alike, 4, [fits, five], [six])
        self.fails(TooWide, {"needed": 6}, are_alike, 4, [six, five], [five])
        self.fails(TooWide, {"needed": 6}, are_alike, 4, [fits], [fits, six, five])
        self.fails(TooWide, {"needed": 5}, are_alike, 4, [], (five,))

    def test_arguments_are_unchanged(self):
        one, other = [turn_flip(1)], [turn_flip(2)]
        are_alike(3, one, other)
        self.assertEqual([one, other], [[turn_flip(1)], [turn_flip(2)]])

    def test_arguments(self):
        self.takes(are_alike, "size", "one", "other")
        self.assertIs(are_alike(other=[], one=[turn_flip(1)], size=2), False)


class Places(CheckCase):

    def test_defined_in_this_file_and_class(self):
        for name in ("Table", "identity_table", "table_of", "are_alike"):
            self.assertEqual(getattr(tables, name).__module__, "paritycells.tables")
        for name in METHODS + ("__eq__", "__len__", "__repr__"):
            self.assertIn(name, vars(Table))

    def test_no_parameters(self):
        table = table_of(4, [add_flip(1, to=2), swap_flip(2, 3)])
        for call in (table.size, table.inverse, table.is_identity):
            self.takes(call)
            self.assertEqual(call(), call())

    def test_repeated_calls_and_sequences_agree(self):
        flips = [add_flip(1, to=2), swap_flip(2, 3)]
        board = Board(4, up=[1])
        self.assertEqual(table_of(4, flips).image(board), apply_flips(board, flips))
        self.assertEqual(table_of(4, flips), table_of(4, flips))


if __name__ == "__main__":
    unittest.main()
