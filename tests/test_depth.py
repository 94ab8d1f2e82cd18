"""Changes, independent cell sets, depths and witnesses."""

import itertools
import unittest

from checks import CheckCase, subsets
from models import (
    SIZES, all_bits, all_rows, are_independent_rows, bits_after, bits_of, board_of, chance_for, least_flips, parity_of,
    rank_of_rows, some_bits, some_cells, some_flips,
)
from paritycells import depth
from paritycells.boards import Board
from paritycells.depth import are_independent, changes_of, depth_of, is_witness, witness_of
from paritycells.errors import NoCells, Unlike
from paritycells.flips import Flip, add_flip, swap_flip, turn_flip
from paritycells.tables import Table, identity_table, table_of
from strange import NOT_CELLS, NOT_INTEGERS, NOT_LISTS, Thing, knotted


def changes_by_rows(rows, bits):
    """Return the cells in which a board and its image differ."""
    return tuple(cell for cell, row in enumerate(rows) if parity_of(bits, row) != bits[cell])


def gaps(table):
    """Return each row added to its own cell; their rank is that of the changes of all boards."""
    return [set(table.row(cell)) ^ {cell} for cell in range(table.size())]


def some_tables(size):
    """Return tables of few, of some and of many flips of a size."""
    chance = chance_for("tables", size)
    return [table_of(size, some_flips(chance, size, many)) for many in (0, 1, 2, size // 2, 2 * size)]


class Changes(CheckCase):

    def test_all_tables_on_all_boards_of_small_sizes(self):
        for size in range(1, 5):
            for rows in all_rows(size)[::1 if size < 4 else 5]:
                table = Table(rows)
                for bits in all_bits(size):
                    found = changes_of(table, board_of(bits))
                    self.assertEqual(found, changes_by_rows(rows, bits))
                    self.assertIs(found.__class__, tuple)

    def test_each_size(self):
        for size in SIZES:
            chance = chance_for("changes", size)
            flips = some_flips(chance, size, 8)
            bits = some_bits(chance, size)
            after = bits_after(bits, flips)
            expected = tuple(cell for cell in range(size) if bits[cell] != after[cell])
            self.assertEqual(changes_of(table_of(size, flips), board_of(bits)), expected)

    def test_unlike(self):
        for size, other in itertools.permutations((1, 2, 3, 39, 40), 2):
            self.fails(Unlike, {"one": size, "other": other}, changes_of, identity_table(size), Board(other))

    def test_arguments_are_unchanged(self):
        table, board = table_of(3, [turn_flip(1)]), Board(3, up=[1])
        changes_of(table, board)
        self.assertEqual([table, board], [table_of(3, [turn_flip(1)]), Board(3, up=[1])])

    def test_arguments(self):
        self.takes(changes_of, "table", "board")
        self.assertEqual(changes_of(board=Board(3), table=table_of(3, [turn_flip(1)])), (1,))


class Independent(CheckCase):

    def test_by_the_definition(self):
        for many in range(4):
            for items in itertools.product(subsets(range(3)), repeat=many):
                for given in (items, [list(item)[::-1] for item in items]):
                    self.assertIs(are_independent(given), are_independent_rows(items))

    def test_some_items_of_more_cells(self):
        chance = chance_for("independent")
        for index in range(300):
            items = [some_cells(chance, 6) for each in range(chance.randrange(8))]
            self.assertIs(are_independent(items), are_independent_rows([tuple(item) for item in items]))

    def test_edges(self):
        self.assertIs(are_independent([]), True)
        self.assertIs(are_independent(()), True)
        self.assertIs(are_independent([[]]), False)
        self.assertIs(are_independent([[0]]), True)
        self.assertIs(are_independent([[1], [2], []]), False)
        self.assertIs(are_independent([[1, 2], [3], (2, 1)]), False)
        self.assertIs(are_independent([[1, 2], [2, 3], [1, 3]]), False)
        self.assertIs(are_independent([[1, 2], [2, 3], [1, 3, 0]]), True)

    def test_40_cells(self):
        single = [[cell] for cell in range(40)]
        self.assertIs(are_independent(single), True)
        self.assertIs(are_independent([list(range(cell + 1)) for cell in range(40)]), True)
        for more in ([], [39], [0], list(range(40))):
            self.assertIs(are_independent(single + [more]), False)
        ring = [[cell, (cell + 1) % 40] for cell in range(40)]
        self.assertIs(are_independent(ring), False)
        self.assertIs(are_independent(ring[:39]), True)
        self.assertIs(are_independent(single * 10), False)

    def test_no_cells_for_the_first_item_that_is_not(self):
        for wrong in NOT_CELLS:
            for items in ([wrong], (wrong,), [[1], wrong, [40]], [[1], [1], wrong, "x"], [[], (), wrong, None]):
                with self.subTest(repr(items)):
                    with self.assertRaises(NoCells) as caught:
                        are_independent(items)
                    self.assertIs(caught.exception.cells, wrong)

    def test_no_cells_even_if_items_are_dependent(self):
        self.fails(NoCells, {"cells": [40]}, are_independent, [[1], [1], [], [40]])
        self.fails(NoCells, {"cells": [True]}, are_independent, [[], [True], [1, 1]])

    def test_argument_is_unchanged(self):
        items = [[3, 1], [2]]
        are_independent(items)
        self.assertEqual(items, [[3, 1], [2]])

    def test_arguments(self):
        self.takes(are_independent, "items")
        self.assertIs(are_independent(items=[[1]]), True)


class Depth(CheckCase):

    def test_by_the_definition(self):
        for size in range(1, 5):
            for rows in all_rows(size)[::1 if size < 4 else 37]:
                changes = [changes_by_rows(rows, bits) for bits in all_bits(size)]
                # More boards than cells are never independent.
                few = [chosen for chosen in subsets(changes) if len(chosen) <= size]
                best = max(len(chosen) for chosen in few if are_independent_rows(chosen))
                self.assertEqual(depth_of(Table(rows)), best)

    def test_as_few_flips_as_any_sequence_has(self):
        for size in range(1, 5):
            for rows, fewest in least_flips(size).items():
                found = depth_of(Table([sorted(row) for row in rows]))
                self.assertEqual(found, fewest)
                self.assertIs(found.__class__, int)

    def test_each_size(self):
        for size in SIZES:
            for table in some_tables(size):
                self.assertEqual(depth_of(table), rank_of_rows(gaps(table)))

    def test_greatest_and_least(self):
        for size in SIZES:
            self.assertEqual(depth_of(identity_table(size)), 0)
            turned = Table([[0]] + [[cell - 1, cell] for cell in range(1, size)])
            self.assertEqual(depth_of(turned), size - 1)
        self.assertEqual(depth_of(table_of(40, [turn_flip(cell) for cell in range(1, 40)])), 1)
        self.assertEqual(depth_of(table_of(40, [swap_flip(cell, cell + 1) for cell in range(1, 39, 2)])), 19)

    def test_arguments(self):
        self.takes(depth_of, "table")
        self.assertEqual(depth_of(table=table_of(4, [add_flip(1, to=2)])), 1)


class Witness(CheckCase):

    def is_right(self, table, boards):
        """Expect a list of as many boards as the depth, with independent changes, by the model."""
        self.assertIs(boards.__class__, list)
        self.assertEqual(len(boards), rank_of_rows(gaps(table)))
        rows = [table.row(cell) for cell in range(table.size())]
        for board in boards:
            self.assertIs(board.__class__, Board)
            self.assertEqual(board.size(), table.size())
        changes = [changes_by_rows(rows, bits_of(board)) for board in boards]
        self.assertEqual(rank_of_rows(changes), len(boards))

    def test_all_tables_of_small_sizes(self):
        for size in range(1, 5):
            for rows in all_rows(size):
                table = Table(rows)
                found = witness_of(table)
                self.is_right(table, found)
                self.assertIs(is_witness(table, found), True)

    def test_each_size(self):
        for size in SIZES:
            for table in some_tables(size):
                found = witness_of(table)
                self.is_right(table, found)
                self.assertIs(is_witness(table, found), True)
                self.assertIs(is_witness(table, tuple(found)), True)

    def test_the_list_belongs_to_the_caller(self):
        table = table_of(4, [add_flip(1, to=2), add_flip(2, to=3)])
        found = witness_of(table)
        found.clear()
        self.assertEqual(len(witness_of(table)), 2)
        self.assertEqual(witness_of(table), witness_of(table))

    def test_arguments(self):
        self.takes(witness_of, "table")
        self.assertEqual(witness_of(table=identity_table(3)), [])


class IsWitness(CheckCase):

    def test_by_the_definition(self):
        for size in range(1, 4):
            for rows in all_rows(size):
                table = Table(rows)
                fewest = rank_of_rows(gaps(table))
                for many in range(size + 1):
                    for chosen in itertools.product(all_bits(size), repeat=many):
                        changes = [changes_by_rows(rows, bits) for bits in chosen]
                        expected = many == fewest and are_independent_rows(changes)
                        self.assertIs(is_witness(table, [board_of(bits) for bits in chosen]), expected)

    def test_other_values(self):
        for table in (identity_table(1), identity_table(3), table_of(4, [add_flip(1, to=2)]), table_of(4, [
            add_flip(1, to=2), add_flip(2, to=3),
        ])):
            for boards in NOT_LISTS + NOT_INTEGERS + NOT_CELLS + [Board(4, up=[1]), Board(3), knotted(), "1100"]:
                empty = isinstance(boards, (list, tuple)) and len(boards) == 0
                with self.subTest(repr(boards)):
                    self.assertIs(is_witness(table, boards), empty and table.is_identity())

    def test_items_that_are_no_boards(self):
        table = table_of(4, [add_flip(1, to=2), add_flip(2, to=3)])
        good = [Board(4, up=[1]), Board(4, up=[2])]
        self.assertIs(is_witness(table, good), True)
        for wrong in NOT_INTEGERS + NOT_LISTS + [good, (0, 1), [0, 1], "1100", Flip([1], [2]), table, Board, Thing()]:
            for boards in ([wrong, good[1]], [good[0], wrong], (good[0], wrong), [wrong, wrong]):
                with self.subTest(repr(wrong)):
                    self.assertIs(is_witness(table, boards), False)

    def test_another_size(self):
        table = table_of(4, [add_flip(1, to=2), add_flip(2, to=3)])
        for size in (1, 2, 3, 5, 40):
            up = [cell for cell in (1, 2) if cell < size]
            self.assertIs(is_witness(table, [Board(4, up=[1]), Board(size, up=up)]), False)
            self.assertIs(is_witness(table, [Board(size, up=up[:1]), Board(4, up=[2])]), False)

    def test_too_few_too_many_and_dependent(self):
        table = table_of(4, [add_flip(1, to=2), add_flip(2, to=3)])
        one, other, still = Board(4, up=[1]), Board(4, up=[2]), Board(4)
        self.assertIs(is_witness(table, [one, other]), True)
        self.assertIs(is_witness(table, (other, one)), True)
        for boards in ([], [one], [one, one], [one, still], [one, other, still], [one, other, Board(4, up=[1, 2])]):
            self.assertIs(is_witness(table, boards), False)

    def test_the_identity(self):
        self.assertIs(is_witness(identity_table(4), []), True)
        self.assertIs(is_witness(identity_table(4), ()), True)
        self.assertIs(is_witness(identity_table(4), [Board(4)]), False)

    def test_argument_is_unchanged(self):
        boards = [Board(4, up=[2]), Board(4, up=[1])]
        is_witness(table_of(4, [add_flip(1, to=2), add_flip(2, to=3)]), boards)
        self.assertEqual(boards, [Board(4, up=[2]), Board(4, up=[1])])

    def test_arguments(self):
        self.takes(is_witness, "table", "boards")
        self.assertIs(is_witness(boards=[], table=identity_table(2)), True)


class Places(CheckCase):

    def test_defined_in_this_file(self):
        for name in ("changes_of", "are_independent", "depth_of", "witness_of", "is_witness"):
            self.assertEqual(getattr(depth, name).__module__, "paritycells.depth")


if __name__ == "__main__":
    unittest.main()
