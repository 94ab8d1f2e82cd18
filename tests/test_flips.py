"""Flips: what they are made of, how they are compared and written, and what they do."""

import itertools
import unittest
from unittest import mock

from checks import CheckCase, subsets
from paritycells import flips
from paritycells.boards import Board
from paritycells.errors import NoCell, NoCells, NoFlip, TooWide
from paritycells.flips import Flip, add_flip, apply_flip, swap_flip, turn_flip
from strange import NOT_CELLS, NOT_INTEGERS, Thing

METHODS = ("tested", "toggled", "is_idle", "width")
NO_CELLS_AT_ALL = NOT_INTEGERS + [-1, -39, 40, 41, 10 ** 30, -10 ** 30]


def cell_pairs(size):
    """Return all tuples of tested and toggled cells that make a flip of at most this width."""
    pairs = itertools.product(subsets(range(size)), subsets(range(1, size)))
    return [(tested, toggled) for tested, toggled in pairs if len(set(tested) & set(toggled)) % 2 == 0]


class Made(CheckCase):

    def test_cells_are_ascending(self):
        for tested, toggled in itertools.product(itertools.permutations([0, 3, 1]), itertools.permutations([3, 2, 1])):
            for flip in (Flip(tested, toggled), Flip(list(tested), list(toggled))):
                self.assertEqual([flip.tested(), flip.toggled()], [(0, 1, 3), (1, 2, 3)])
                self.assertEqual([flip.tested().__class__, flip.toggled().__class__], [tuple, tuple])

    def test_all_cells(self):
        flip = Flip(list(range(39)), list(range(1, 40))[::-1])
        self.assertEqual([flip.tested(), flip.toggled()], [tuple(range(39)), tuple(range(1, 40))])

    def test_later_changes_and_arguments(self):
        tested, toggled = [3, 1], [5, 4]
        flip = Flip(tested, toggled)
        self.assertEqual([tested, toggled], [[3, 1], [5, 4]])
        tested.append(2)
        toggled.clear()
        self.assertEqual([flip.tested(), flip.toggled()], [(1, 3), (4, 5)])

    def test_no_cells_of_tested(self):
        for tested in NOT_CELLS:
            with self.subTest(repr(tested)):
                with self.assertRaises(NoCells) as caught:
                    Flip(tested, [2])
                self.assertIs(caught.exception.cells, tested)

    def test_no_cells_of_toggled(self):
        for toggled in NOT_CELLS:
            with self.subTest(repr(toggled)):
                with self.assertRaises(NoCells) as caught:
                    Flip([2], toggled)
                self.assertIs(caught.exception.cells, toggled)

    def test_tested_ahead_of_toggled(self):
        for tested in NOT_CELLS:
            for toggled in ([40], [1, 1], None, [0], [True]):
                with self.assertRaises(NoCells) as caught:
                    Flip(tested, toggled)
                self.assertIs(caught.exception.cells, tested)

    def test_no_cells_ahead_of_fixed_and_odd(self):
        self.fails(NoCells, {"cells": [0, 0]}, Flip, [1], [0, 0])
        self.fails(NoCells, {"cells": [0, 40]}, Flip, [1], [0, 40])
        self.fails(NoCells, {"cells": [0, 1, True]}, Flip, [1], [0, 1, True])
        self.fails(NoCells, {"cells": [1, 1]}, Flip, [1, 1], [0, 1])

    def test_fixed(self):
        for tested, toggled in itertools.product(subsets(range(4)), subsets(range(1, 4))):
            self.fails(NoFlip, {"why": "fixed"}, Flip, tested, (*toggled, 0))
        self.fails(NoFlip, {"why": "fixed"}, Flip, [], [0])
        self.fails(NoFlip, {"why": "fixed"}, Flip, [39], [39, 0])

    def test_fixed_ahead_of_odd(self):
        self.fails(NoFlip, {"why": "fixed"}, Flip, [1], [0, 1])
        self.fails(NoFlip, {"why": "fixed"}, Flip, [0], [0])

    def test_odd_exactly_if_an_odd_number_is_shared(self):
        for tested, toggled in itertools.product(subsets(range(5)), subsets(range(1, 5))):
            if len(set(tested) & set(toggled)) % 2 == 1:
                self.fails(NoFlip, {"why": "odd"}, Flip, tested, toggled)
            else:
                flip = Flip(tested, toggled)
                self.assertEqual([flip.tested(), flip.toggled()], [tested, toggled])
        self.fails(NoFlip, {"why": "odd"}, Flip, [39], [39])
        self.fails(NoFlip, {"why": "odd"}, Flip, list(range(40)), list(range(1, 40)))

    def test_arguments(self):
        self.takes(Flip, "tested", "toggled")
        self.assertEqual(Flip(toggled=[2], tested=[1]), Flip([1], [2]))
        with self.assertRaises(TypeError):
            Flip([1])


class Asked(CheckCase):

    def test_is_idle(self):
        for tested, toggled in cell_pairs(4):
            idle = len(tested) == 0 or len(toggled) == 0
            self.assertIs(Flip(tested, toggled).is_idle(), idle)
        self.assertIs(Flip([], []).is_idle(), True)
        self.assertIs(Flip([0], [39]).is_idle(), False)

    def test_width(self):
        self.assertEqual(Flip([], []).width(), 1)
        self.assertEqual(Flip([0], []).width(), 1)
        self.assertEqual(Flip([0], [1]).width(), 2)
        for cell in range(1, 40):
            self.assertEqual(Flip([cell], []).width(), cell + 1)
            self.assertEqual(Flip([], [cell]).width(), cell + 1)
            self.assertEqual(Flip([0], [cell]).width(), cell + 1)
        for tested, toggled in cell_pairs(5):
            self.assertEqual(Flip(tested, toggled).width(), max([0, *tested, *toggled]) + 1)

    def test_no_parameters(self):
        flip = Flip([1], [2])
        for call in (flip.tested, flip.toggled, flip.is_idle, flip.width):
            self.takes(call)
            self.assertEqual(call(), call())


class Compared(CheckCase):

    def test_equal_exactly_if_cells_are(self):
        every = [(pair, Flip(*pair)) for pair in cell_pairs(3)]
        for (pair, one), (other_pair, other) in itertools.product(every, repeat=2):
            self.assertIs(one == other, pair == other_pair)
            self.assertIs(one != other, pair != other_pair)

    def test_order_and_kind_of_lists_have_no_effect(self):
        self.assertTrue(Flip([3, 1], (2, 4)) == Flip((1, 3), [4, 2]))

    def test_idle_flips_differ(self):
        self.assertFalse(Flip([], [1]) == Flip([], []))
        self.assertFalse(Flip([1], []) == Flip([], []))
        self.assertFalse(Flip([], [1]) == Flip([1], []))

    def test_nothing_else(self):
        flip = Flip([1], [2])
        others = [
            None, True, 1, "1>2", "Flip(tested=[1], toggled=[2])", ((1,), (2,)), [[1], [2]], (1, 2), {1: 2},
            object(), Thing(), Flip, Board(3, up=[1]), mock.ANY,
        ]
        for other in others:
            with self.subTest(repr(other)):
                self.assertIs(flip == other, False)
                self.assertIs(flip != other, True)

    def test_another_object_with_the_same_fields(self):
        flip = Flip([1], [2])
        thing = Thing()
        vars(thing).update(vars(flip))
        self.assertIs(flip == thing, False)


class Written(CheckCase):

    def test_repr(self):
        self.assertEqual(repr(Flip([3, 1], (2,))), "Flip(tested=[1, 3], toggled=[2])")
        self.assertEqual(repr(Flip([], [])), "Flip(tested=[], toggled=[])")
        self.assertEqual(repr(Flip([0], [10, 9])), "Flip(tested=[0], toggled=[9, 10])")
        for tested, toggled in cell_pairs(4):
            flip = Flip(tested, toggled)
            self.assertEqual(repr(flip), f"Flip(tested={list(tested)}, toggled={list(toggled)})")
            self.assertEqual(eval(repr(flip)), flip)

    def test_str(self):
        texts = {
            "1,3>2": ([3, 1], [2]),
            "0>5": ([0], [5]),
            "->-": ([], []),
            "->1,39": ([], [39, 1]),
            "0,10>-": ([10, 0], []),
            "9,10>9,10": ([10, 9], [10, 9]),
            "0>1,2,3": ((0,), (3, 2, 1)),
        }
        for text, pair in texts.items():
            self.assertEqual(str(Flip(*pair)), text)

    def test_str_of_all_cells(self):
        numbers = ",".join(str(cell) for cell in range(1, 40))
        self.assertEqual(str(Flip([0], list(range(1, 40)))), "0>" + numbers)


class Turn(CheckCase):

    def test_each_cell(self):
        for cell in range(1, 40):
            self.assertEqual(turn_flip(cell), Flip([0], [cell]))

    def test_applied(self):
        for cell in range(1, 5):
            for up in subsets(range(1, 5)):
                found = apply_flip(Board(5, up=up), turn_flip(cell))
                self.assertEqual(found, Board(5, up=sorted(set(up) ^ {cell})))

    def test_no_cell(self):
        for cell in NO_CELLS_AT_ALL + [0]:
            with self.subTest(repr(cell)):
                with self.assertRaises(NoCell) as caught:
                    turn_flip(cell)
                self.assertIs(caught.exception.cell, cell)

    def test_arguments(self):
        self.takes(turn_flip, "cell")
        self.assertEqual(turn_flip(cell=2), Flip([0], [2]))


class Add(CheckCase):

    def test_each_pair(self):
        for cell, to in itertools.product(range(40), range(1, 40)):
            if cell != to:
                self.assertEqual(add_flip(cell, to=to), Flip([cell], [to]))

    def test_applied(self):
        for cell, to in itertools.permutations(range(1, 5), 2):
            for up in subsets(range(1, 5)):
                found = apply_flip(Board(5, up=up), add_flip(cell, to=to))
                self.assertEqual(found, Board(5, up=sorted(set(up) ^ {to} if cell in up else up)))

    def test_from_cell_0_it_turns(self):
        self.assertEqual(add_flip(0, to=3), turn_flip(3))

    def test_no_cell(self):
        for cell in NO_CELLS_AT_ALL:
            with self.subTest(repr(cell)):
                with self.assertRaises(NoCell) as caught:
                    add_flip(cell, to=2)
                self.assertIs(caught.exception.cell, cell)

    def test_no_cell_to(self):
        for to in NO_CELLS_AT_ALL + [0]:
            for cell in (0, 1, 39):
                with self.subTest(repr(to), cell=cell):
                    with self.assertRaises(NoCell) as caught:
                        add_flip(cell, to=to)
                    self.assertIs(caught.exception.cell, to)

    def test_cell_ahead_of_to(self):
        for cell in NO_CELLS_AT_ALL:
            for to in ("to", 0, 99, True):
                with self.assertRaises(NoCell) as caught:
                    add_flip(cell, to=to)
                self.assertIs(caught.exception.cell, cell)

    def test_to_itself(self):
        for cell in range(40):
            self.fails(NoCell, {"cell": cell}, add_flip, cell, to=cell)

    def test_arguments(self):
        self.takes(add_flip, "cell", "*", "to")
        self.assertEqual(add_flip(to=2, cell=1), Flip([1], [2]))
        with self.assertRaises(TypeError):
            add_flip(1, 2)
        with self.assertRaises(TypeError):
            add_flip(1)


class Swap(CheckCase):

    def test_each_pair(self):
        for one, other in itertools.permutations(range(1, 40), 2):
            self.assertEqual(swap_flip(one, other), Flip([one, other], [one, other]))

    def test_applied(self):
        for one, other in itertools.permutations(range(1, 5), 2):
            places = {one: other, other: one}
            for up in subsets(range(1, 5)):
                found = apply_flip(Board(5, up=up), swap_flip(one, other))
                self.assertEqual(found, Board(5, up=[places.get(cell, cell) for cell in up]))

    def test_no_cell_one(self):
        for one in NO_CELLS_AT_ALL + [0]:
            for other in (2, 0, "other", 99, True):
                with self.subTest(repr(one), other=other):
                    with self.assertRaises(NoCell) as caught:
                        swap_flip(one, other)
                    self.assertIs(caught.exception.cell, one)

    def test_no_cell_other(self):
        for other in NO_CELLS_AT_ALL + [0]:
            for one in (1, 39):
                with self.subTest(repr(other), one=one):
                    with self.assertRaises(NoCell) as caught:
                        swap_flip(one, other)
                    self.assertIs(caught.exception.cell, other)

    def test_both_the_same(self):
        for cell in range(1, 40):
            self.fails(NoCell, {"cell": cell}, swap_flip, cell, cell)

    def test_arguments(self):
        self.takes(swap_flip, "one", "other")
        self.assertEqual(swap_flip(other=2, one=1), Flip([1, 2], [1, 2]))


class Applied(CheckCase):

    def test_all_flips_on_all_boards_of_small_sizes(self):
        for size in range(1, 5):
            for tested, toggled in cell_pairs(size):
                flip = Flip(tested, toggled)
                for up in subsets(range(1, size)):
                    ups = {0, *up}
                    odd = len(ups & set(tested)) % 2 == 1
                    expected = ups ^ set(toggled) if odd else ups
                    board = Board(size, up=up)
                    found = apply_flip(board, flip)
                    self.assertEqual(found, Board(size, up=sorted(expected)))
                    self.assertEqual(apply_flip(found, flip), board)
                    self.assertEqual(board.up(), tuple(sorted(ups)))

    def test_flip_stays_as_it_is(self):
        flip = Flip([1], [2])
        apply_flip(Board(4, up=[1]), flip)
        self.assertEqual(flip, Flip([1], [2]))

    def test_size_40(self):
        board = Board(40, up=[1, 39])
        flip = Flip([0, 1, 39], list(range(2, 39)))
        self.assertEqual(apply_flip(board, flip).up(), tuple(range(40)))
        self.assertEqual(apply_flip(board, Flip([1, 39], [5])), board)

    def test_idle_flips(self):
        for flip in (Flip([], [1, 2]), Flip([0, 1], []), Flip([], [])):
            for up in subsets(range(1, 4)):
                board = Board(4, up=up)
                self.assertEqual(apply_flip(board, flip), board)

    def test_too_wide_exactly_below_the_width(self):
        for tested, toggled in cell_pairs(4):
            flip = Flip(tested, toggled)
            for size in range(1, 6):
                if size < flip.width():
                    self.fails(TooWide, {"needed": flip.width()}, apply_flip, Board(size), flip)
                else:
                    self.assertEqual(apply_flip(Board(size), flip).size(), size)

    def test_too_wide_at_the_ends(self):
        self.fails(TooWide, {"needed": 40}, apply_flip, Board(39), turn_flip(39))
        self.fails(TooWide, {"needed": 40}, apply_flip, Board(1), Flip([39], []))
        self.fails(TooWide, {"needed": 2}, apply_flip, Board(1), Flip([], [1]))
        self.assertEqual(apply_flip(Board(40), turn_flip(39)).up(), (0, 39))
        self.assertEqual(apply_flip(Board(1), Flip([0], [])), Board(1))

    def test_arguments(self):
        self.takes(apply_flip, "board", "flip")
        self.assertEqual(str(apply_flip(flip=turn_flip(2), board=Board(3))), "101")


class Places(CheckCase):

    def test_defined_in_this_file_and_class(self):
        for name in ("Flip", "turn_flip", "add_flip", "swap_flip", "apply_flip"):
            self.assertEqual(getattr(flips, name).__module__, "paritycells.flips")
        for name in METHODS + ("__eq__", "__repr__", "__str__"):
            self.assertIn(name, vars(Flip))


if __name__ == "__main__":
    unittest.main()
