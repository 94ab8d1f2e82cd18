"""Boards: what they are made of, how they are compared and written, parity, toggled."""

import copy
import itertools
import unittest
from unittest import mock

from checks import CheckCase, subsets
from paritycells import boards
from paritycells.boards import Board
from paritycells.errors import NoCell, NoCells, NoSize
from paritycells.flips import Flip
from strange import NOT_CELLS, NOT_INTEGERS, Thing

METHODS = ("size", "up", "is_up", "parity", "toggled")
NOT_SIZES = NOT_INTEGERS + [0, -1, 41, 42, 10 ** 30, -10 ** 30]


def all_boards(size):
    """Return all boards of a size, each with the set of its cells that are up."""
    return [(Board(size, up=up), {0, *up}) for up in subsets(range(1, size))]


class Made(CheckCase):

    def test_each_size(self):
        for size in range(1, 41):
            board = Board(size)
            with self.subTest(size):
                self.assertEqual([board.size(), len(board), board.up()], [size, size, (0,)])
                full = Board(size, up=list(range(size)))
                self.assertEqual([full.size(), len(full), full.up()], [size, size, tuple(range(size))])
                last = Board(size, up=[size - 1])
                self.assertEqual(last.up(), tuple(sorted({0, size - 1})))

    def test_up_in_any_order_with_and_without_cell_0(self):
        for up in itertools.chain(itertools.permutations([1, 4, 3]), itertools.permutations([0, 1, 4, 3])):
            for given in (list(up), up):
                board = Board(6, up=given)
                self.assertEqual(board.up(), (0, 1, 3, 4))
                self.assertIs(board.up().__class__, tuple)

    def test_cell_0_is_always_up(self):
        for up in ([], (), [0], (0,)):
            for size in (1, 2, 40):
                self.assertEqual(Board(size, up=up).up(), (0,))

    def test_all_boards_of_small_sizes(self):
        for size in range(1, 6):
            for board, up in all_boards(size):
                self.assertEqual(board.up(), tuple(sorted(up)))
                self.assertEqual([board.is_up(cell) for cell in range(size)], [cell in up for cell in range(size)])

    def test_later_change_of_the_list(self):
        up = [2]
        board = Board(4, up=up)
        up.append(3)
        up[0] = 1
        self.assertEqual(board.up(), (0, 2))
        self.assertEqual(up, [1, 3])

    def test_argument_is_unchanged(self):
        up = [3, 1]
        Board(4, up=up)
        self.assertEqual(up, [3, 1])

    def test_no_size(self):
        for value in NOT_SIZES:
            with self.subTest(repr(value)):
                with self.assertRaises(NoSize) as caught:
                    Board(value)
                self.assertIs(caught.exception.value, value)

    def test_no_size_ahead_of_no_cells(self):
        for value in NOT_SIZES:
            for up in ([99], [1, 1], None, "1", [True]):
                self.fails(NoSize, {"value": value}, Board, value, up=up)

    def test_no_cells(self):
        for up in NOT_CELLS:
            for size in (1, 2, 40):
                with self.subTest(repr(up), size=size):
                    with self.assertRaises(NoCells) as caught:
                        Board(size, up=up)
                    self.assertIs(caught.exception.cells, up)

    def test_no_cells_of_this_size(self):
        for size in range(1, 41):
            for up in ([size], (size,), [0, size], [-1]):
                self.refuses(NoCells, "cells", up, Board, size, up=up)

    def test_arguments(self):
        self.takes(Board, "size", "*", ("up", ()))
        self.assertEqual(Board(up=[2], size=4), Board(4, up=[2]))
        with self.assertRaises(TypeError):
            Board(4, [2])
        with self.assertRaises(TypeError):
            Board()


class Compared(CheckCase):

    def test_equal_exactly_if_size_and_up_are(self):
        every = [(size, up, board) for size in range(1, 5) for board, up in all_boards(size)]
        for (size, up, one), (other_size, other_up, other) in itertools.product(every, repeat=2):
            same = size == other_size and up == other_up
            self.assertIs(one == other, same)
            self.assertIs(one != other, not same)

    def test_up_with_and_without_cell_0(self):
        self.assertTrue(Board(4, up=[2, 0]) == Board(4, up=(2,)))

    def test_same_cells_other_size(self):
        self.assertFalse(Board(4, up=[2]) == Board(5, up=[2]))

    def test_nothing_else(self):
        board = Board(4, up=[2])
        others = [
            None, True, 4, "1010", (0, 2), [0, 2], (1, 0, 1, 0), [1, 0, 1, 0], "Board(4, up=[0, 2])", {0: 1},
            object(), Thing(), Board, Flip([0], [2]), mock.ANY,
        ]
        for other in others:
            with self.subTest(repr(other)):
                self.assertIs(board == other, False)
                self.assertIs(board != other, True)

    def test_another_object_with_the_same_fields(self):
        board = Board(4, up=[2])
        thing = Thing()
        vars(thing).update(vars(board))
        self.assertIs(board == thing, False)


class Written(CheckCase):

    def test_repr(self):
        self.assertEqual(repr(Board(1)), "Board(1, up=[0])")
        self.assertEqual(repr(Board(1, up=[0])), "Board(1, up=[0])")
        self.assertEqual(repr(Board(4, up=(3, 1))), "Board(4, up=[0, 1, 3])")
        self.assertEqual(repr(Board(40, up=[39])), "Board(40, up=[0, 39])")

    def test_str(self):
        self.assertEqual(str(Board(1)), "1")
        self.assertEqual(str(Board(4, up=[2])), "1010")
        self.assertEqual(str(Board(4, up=[0, 3])), "1001")
        self.assertEqual(str(Board(40, up=[39])), "1" + "0" * 38 + "1")
        self.assertEqual(str(Board(40, up=list(range(40)))), "1" * 40)

    def test_all_boards_of_small_sizes(self):
        for size in range(1, 6):
            for board, up in all_boards(size):
                self.assertEqual(repr(board), f"Board({size}, up={sorted(up)})")
                self.assertEqual(str(board), "".join("1" if cell in up else "0" for cell in range(size)))
                self.assertEqual(eval(repr(board)), board)


class IsUp(CheckCase):

    def test_bools_are_returned(self):
        board = Board(4, up=[2])
        self.assertIs(board.is_up(0), True)
        self.assertIs(board.is_up(2), True)
        self.assertIs(board.is_up(3), False)

    def test_no_cell(self):
        for size in (1, 2, 40):
            board = Board(size)
            for cell in NOT_INTEGERS + [-1, -size, size, size + 1, 41, 10 ** 30]:
                with self.subTest(repr(cell), size=size):
                    with self.assertRaises(NoCell) as caught:
                        board.is_up(cell)
                    self.assertIs(caught.exception.cell, cell)

    def test_arguments(self):
        self.takes(Board(4).is_up, "cell")
        self.assertIs(Board(4, up=[2]).is_up(cell=2), True)


class Parity(CheckCase):

    def test_all_cells_of_all_boards_of_small_sizes(self):
        for size in range(1, 6):
            for board, up in all_boards(size):
                for cells in subsets(range(size)):
                    found = board.parity(list(cells)[::-1])
                    self.assertEqual(found, len(up & set(cells)) % 2)
                    self.assertIs(found.__class__, int)

    def test_size_40(self):
        board = Board(40, up=list(range(0, 40, 2)))
        self.assertEqual(board.parity(list(range(40))), 0)
        self.assertEqual(board.parity(tuple(range(39))), 0)
        self.assertEqual(board.parity(tuple(range(38))), 1)
        self.assertEqual(board.parity([39]), 0)
        self.assertEqual(board.parity(()), 0)

    def test_no_cells(self):
        for size in (1, 2, 40):
            board = Board(size)
            for cells in NOT_CELLS + [[size], (0, size)]:
                with self.subTest(repr(cells), size=size):
                    with self.assertRaises(NoCells) as caught:
                        board.parity(cells)
                    self.assertIs(caught.exception.cells, cells)

    def test_argument_is_unchanged(self):
        cells = [3, 1]
        Board(4).parity(cells)
        self.assertEqual(cells, [3, 1])

    def test_arguments(self):
        self.takes(Board(4).parity, "cells")
        self.assertEqual(Board(4, up=[2]).parity(cells=[2]), 1)


class Toggled(CheckCase):

    def test_all_cells_of_all_boards_of_small_sizes(self):
        for size in range(1, 6):
            for board, up in all_boards(size):
                for cells in subsets(range(1, size)):
                    found = board.toggled(list(cells)[::-1])
                    self.assertEqual(found, Board(size, up=sorted(up ^ set(cells))))
                    self.assertEqual(found.toggled(cells), board)
                    self.assertEqual(board.up(), tuple(sorted(up)))

    def test_size_40(self):
        board = Board(40, up=[1, 39]).toggled(tuple(range(1, 40)))
        self.assertEqual(board.up(), (0, *range(2, 39)))
        self.assertEqual(Board(40).toggled([39]).up(), (0, 39))

    def test_board_stays_as_it_is(self):
        board = Board(4, up=[2])
        kept = copy.deepcopy(board)
        board.toggled([2, 3])
        self.assertEqual(board, kept)
        self.assertEqual(str(board), "1010")

    def test_cell_0(self):
        for size in (2, 40):
            for cells in ([0], (0,), [0, 1], [1, 0]):
                self.refuses(NoCells, "cells", cells, Board(size).toggled, cells)
        self.refuses(NoCells, "cells", [0], Board(1).toggled, [0])
        self.assertEqual(Board(1).toggled([]), Board(1))

    def test_no_cells(self):
        for size in (1, 2, 40):
            board = Board(size)
            for cells in NOT_CELLS + [[size], (1, size)]:
                with self.subTest(repr(cells), size=size):
                    with self.assertRaises(NoCells) as caught:
                        board.toggled(cells)
                    self.assertIs(caught.exception.cells, cells)
            self.assertEqual(board, Board(size))

    def test_argument_is_unchanged(self):
        cells = [3, 1]
        found = Board(4).toggled(cells)
        self.assertEqual(cells, [3, 1])
        cells.append(2)
        self.assertEqual(str(found), "1101")

    def test_arguments(self):
        self.takes(Board(4).toggled, "cells")
        self.assertEqual(str(Board(4).toggled(cells=[2])), "1010")


class Places(CheckCase):

    def test_defined_in_this_file_and_class(self):
        self.assertEqual(boards.Board.__module__, "paritycells.boards")
        for name in METHODS + ("__eq__", "__len__", "__repr__", "__str__"):
            self.assertIn(name, vars(Board))

    def test_no_parameters(self):
        self.takes(Board(4).size)
        self.takes(Board(4).up)

    def test_repeated_calls(self):
        board = Board(4, up=[2])
        for call in (board.size, board.up, board.__repr__, board.__str__):
            self.assertEqual(call(), call())


if __name__ == "__main__":
    unittest.main()
