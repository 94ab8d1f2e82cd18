"""Sequences: done, reversed, moved past a later flip, and flips that commute."""

import itertools
import unittest

from checks import CheckCase, subsets
from models import (
    SIZES, all_bits, all_flips, bits_after, bits_of, board_of, chance_for, parity_of, some_bits, some_cells, some_flip,
    some_flips,
)
from paritycells import sequences
from paritycells.boards import Board
from paritycells.errors import NoCells, TooWide
from paritycells.flips import Flip, add_flip, apply_flip, turn_flip
from paritycells.sequences import apply_flips, cells_past, do_commute, moved_past, reversed_flips
from strange import NOT_CELLS


def some_pairs(size, many):
    """Return some pairs of flips of at most this width, and all of them for three cells."""
    if size <= 3:
        return list(itertools.product(all_flips(size), repeat=2))
    chance = chance_for("pairs", size)
    return [tuple(some_flips(chance, size, 2)) for index in range(many)]


def shares_odd(one, other):
    """Return whether the two share an odd number of cells."""
    return len(set(one) & set(other)) % 2 == 1


class Applied(CheckCase):

    def test_each_size_against_the_model(self):
        for size in SIZES:
            chance = chance_for("applied", size)
            for many in (1, 2, 5, 20):
                flips = some_flips(chance, size, many)
                bits = some_bits(chance, size)
                with self.subTest(size, many=many):
                    self.assertEqual(bits_of(apply_flips(board_of(bits), flips)), bits_after(bits, flips))

    def test_there_and_back(self):
        for size in SIZES:
            chance = chance_for("back", size)
            flips = some_flips(chance, size, 12)
            board = board_of(some_bits(chance, size))
            there = apply_flips(board, flips)
            self.assertEqual(apply_flips(there, reversed_flips(flips)), board)
            self.assertEqual(apply_flips(board, flips + reversed_flips(flips)), board)

    def test_all_pairs_of_flips_on_all_boards_of_small_sizes(self):
        for size in range(1, 4):
            for flips in itertools.product(all_flips(size), repeat=2):
                for bits in all_bits(size):
                    self.assertEqual(bits_of(apply_flips(board_of(bits), list(flips))), bits_after(bits, flips))

    def test_the_order_is_from_first_to_last(self):
        flips = [add_flip(1, to=2), add_flip(2, to=3)]
        self.assertEqual(str(apply_flips(Board(4, up=[1]), flips)), "1111")
        self.assertEqual(str(apply_flips(Board(4, up=[1]), flips[::-1])), "1110")

    def test_the_same_flip_twice_in_a_row(self):
        for flip in all_flips(4):
            for bits in all_bits(4):
                self.assertEqual(apply_flips(board_of(bits), [flip, flip]), board_of(bits))

    def test_idle_flips(self):
        idle = [Flip([], [1, 2]), Flip([0, 1], []), Flip([], [])]
        for bits in all_bits(4):
            self.assertEqual(apply_flips(board_of(bits), idle), board_of(bits))

    def test_an_empty_sequence(self):
        for size in SIZES:
            board = board_of(some_bits(chance_for("empty", size), size))
            self.assertEqual(apply_flips(board, []), board)
            self.assertEqual(apply_flips(board, ()), board)

    def test_a_tuple_of_flips(self):
        flips = (add_flip(1, to=2), turn_flip(1))
        self.assertEqual(str(apply_flips(Board(3, up=[1]), flips)), "101")

    def test_two_hundred_flips(self):
        chance = chance_for("many")
        flips = some_flips(chance, 40, 200)
        bits = some_bits(chance, 40)
        self.assertEqual(bits_of(apply_flips(board_of(bits), flips)), bits_after(bits, flips))

    def test_too_wide_for_the_first_flip_that_does_not_fit(self):
        board = Board(4, up=[1])
        fits, five, six = turn_flip(3), turn_flip(4), turn_flip(5)
        self.fails(TooWide, {"needed": 5}, apply_flips, board, [five])
        self.fails(TooWide, {"needed": 5}, apply_flips, board, [fits, five, six])
        self.fails(TooWide, {"needed": 6}, apply_flips, board, [fits, fits, six, five])
        self.fails(TooWide, {"needed": 6}, apply_flips, board, (fits, six))
        self.fails(TooWide, {"needed": 40}, apply_flips, board, [Flip([], [39]), five])
        self.fails(TooWide, {"needed": 7}, apply_flips, board, [Flip([6], []), five])
        self.fails(TooWide, {"needed": 2}, apply_flips, Board(1), [Flip([0], []), Flip([1], [])])
        self.assertEqual(board, Board(4, up=[1]))

    def test_arguments_are_unchanged(self):
        board, flips = Board(4, up=[1]), [add_flip(1, to=2), turn_flip(3)]
        kept = list(flips)
        reached = apply_flips(board, flips)
        self.assertEqual([board, flips], [Board(4, up=[1]), kept])
        flips.clear()
        self.assertEqual(str(reached), "1111")

    def test_arguments(self):
        self.takes(apply_flips, "board", "flips")
        self.assertEqual(str(apply_flips(flips=[turn_flip(2)], board=Board(3))), "101")


class Reversed(CheckCase):

    def test_order(self):
        for many in range(6):
            flips = some_flips(chance_for("reversed", many), 8, many)
            for given in (flips, tuple(flips)):
                found = reversed_flips(given)
                self.assertIs(found.__class__, list)
                self.assertEqual(found, [flips[many - 1 - index] for index in range(many)])

    def test_the_list_belongs_to_the_caller(self):
        flips = [turn_flip(1), turn_flip(2)]
        found = reversed_flips(flips)
        found.append(turn_flip(3))
        found[0] = turn_flip(4)
        self.assertEqual(flips, [turn_flip(1), turn_flip(2)])
        self.assertEqual(reversed_flips(flips), [turn_flip(2), turn_flip(1)])
        single = [turn_flip(1)]
        reversed_flips(single).clear()
        reversed_flips([]).append(turn_flip(1))
        self.assertEqual([single, reversed_flips([])], [[turn_flip(1)], []])

    def test_later_changes_have_no_effect(self):
        flips = [turn_flip(1), turn_flip(2)]
        found = reversed_flips(flips)
        flips.clear()
        self.assertEqual(found, [turn_flip(2), turn_flip(1)])

    def test_arguments(self):
        self.takes(reversed_flips, "flips")
        self.assertEqual(reversed_flips(flips=[turn_flip(2)]), [turn_flip(2)])


class MovedPast(CheckCase):

    def test_by_the_definition(self):
        for size in (1, 2, 3, 4, 9, 40):
            for flip, later in some_pairs(size, 200):
                tested, toggled = set(flip.tested()), set(flip.toggled())
                if shares_odd(flip.tested(), later.toggled()):
                    tested ^= set(later.tested())
                if shares_odd(flip.toggled(), later.tested()):
                    toggled ^= set(later.toggled())
                found = moved_past(flip, later)
                self.assertIs(found.__class__, Flip)
                self.assertEqual([found.tested(), found.toggled()], [tuple(sorted(tested)), tuple(sorted(toggled))])

    def test_by_all_boards_of_small_sizes(self):
        for size in range(1, 5):
            for flip, later in some_pairs(size, 400):
                moved = moved_past(flip, later)
                for bits in all_bits(size):
                    self.assertEqual(bits_after(bits, [flip, later]), bits_after(bits, [later, moved]))

    def test_past_itself_and_past_idle_flips(self):
        for flip in all_flips(4):
            self.assertEqual(moved_past(flip, flip), flip)
            self.assertEqual(moved_past(flip, Flip([], [])), flip)

    def test_both_parts_may_be_added(self):
        moved = moved_past(Flip([1], [2]), Flip([0, 2], [1, 3]))
        self.assertEqual([moved.tested(), moved.toggled()], [(0, 1, 2), (1, 2, 3)])

    def test_cells_in_both_are_left_out(self):
        self.assertEqual(str(moved_past(Flip([1, 3], [2]), Flip([1], [3, 2]))), "3>2")
        self.assertEqual(str(moved_past(Flip([1], [2, 3]), Flip([2], [3, 1]))), "1,2>1,2")

    def test_arguments(self):
        self.takes(moved_past, "flip", "later")
        self.assertEqual(str(moved_past(later=add_flip(2, to=3), flip=add_flip(1, to=2))), "1>2,3")

    def test_arguments_are_unchanged(self):
        flip, later = add_flip(1, to=2), add_flip(2, to=3)
        moved_past(flip, later)
        self.assertEqual([flip, later], [add_flip(1, to=2), add_flip(2, to=3)])


class CellsPast(CheckCase):

    def test_by_the_definition(self):
        for size in (1, 2, 3, 4, 9, 40):
            chance = chance_for("cells", size)
            for index in range(200):
                cells, later = some_cells(chance, size), some_flip(chance, size)
                expected = set(cells)
                if shares_odd(cells, later.toggled()):
                    expected ^= set(later.tested())
                chance.shuffle(cells)
                for given in (cells, tuple(cells)):
                    found = cells_past(given, later)
                    self.assertIs(found.__class__, tuple)
                    self.assertEqual(found, tuple(sorted(expected)))

    def test_the_parity_before_is_the_parity_after(self):
        for size in range(1, 5):
            for later, cells in itertools.product(all_flips(size), subsets(range(size))):
                moved = cells_past(cells, later)
                for bits in all_bits(size):
                    self.assertEqual(parity_of(bits, cells), parity_of(bits_after(bits, [later]), moved))

    def test_no_cells(self):
        for later in (Flip([], []), add_flip(1, to=2)):
            for cells in NOT_CELLS:
                with self.subTest(repr(cells)):
                    with self.assertRaises(NoCells) as caught:
                        cells_past(cells, later)
                    self.assertIs(caught.exception.cells, cells)

    def test_cells_of_size_40(self):
        self.assertEqual(cells_past([39, 0], add_flip(1, to=39)), (0, 1, 39))
        self.assertEqual(cells_past(list(range(40))[::-1], Flip([], [])), tuple(range(40)))
        self.fails(NoCells, {"cells": [40]}, cells_past, [40], add_flip(1, to=2))

    def test_argument_is_unchanged(self):
        cells = [3, 1]
        found = cells_past(cells, add_flip(2, to=3))
        self.assertEqual(cells, [3, 1])
        cells.append(4)
        self.assertEqual(found, (1, 2, 3))

    def test_arguments(self):
        self.takes(cells_past, "cells", "later")
        self.assertEqual(cells_past(later=add_flip(2, to=3), cells=[3]), (2, 3))


class Commute(CheckCase):

    def test_by_the_definition(self):
        for size in (1, 2, 3, 4, 9, 40):
            for one, other in some_pairs(size, 200):
                expected = len(set(one.tested()) & set(other.toggled())) % 2 == 0
                expected = expected and len(set(other.tested()) & set(one.toggled())) % 2 == 0
                self.assertIs(do_commute(one, other), expected)
                self.assertIs(do_commute(other, one), expected)

    def test_by_all_boards_of_small_sizes(self):
        for size in range(1, 5):
            for one, other in some_pairs(size, 400):
                alike = all(bits_after(bits, [one, other]) == bits_after(bits, [other, one]) for bits in all_bits(size))
                if do_commute(one, other):
                    self.assertTrue(alike)
                elif not one.is_idle() and not other.is_idle():
                    self.assertFalse(alike)

    def test_each_side_counts(self):
        self.assertIs(do_commute(add_flip(1, to=2), add_flip(2, to=3)), False)
        self.assertIs(do_commute(add_flip(2, to=3), add_flip(1, to=2)), False)
        self.assertIs(do_commute(Flip([1], [2]), Flip([2], [1])), False)
        self.assertIs(do_commute(Flip([1, 2], [3]), Flip([0], [1, 2])), True)
        self.assertIs(do_commute(add_flip(1, to=2), add_flip(1, to=3)), True)

    def test_idle_flips_that_do_not_commute(self):
        self.assertIs(do_commute(Flip([1], []), Flip([0], [1])), False)
        self.assertIs(do_commute(Flip([], [1]), Flip([1], [2])), False)
        self.assertIs(do_commute(Flip([], []), Flip([1], [2])), True)

    def test_a_flip_commutes_with_itself(self):
        for flip in all_flips(4):
            self.assertIs(do_commute(flip, flip), True)

    def test_arguments(self):
        self.takes(do_commute, "one", "other")
        self.assertIs(do_commute(other=add_flip(1, to=2), one=add_flip(2, to=3)), False)


class Places(CheckCase):

    def test_defined_in_this_file(self):
        for name in ("apply_flips", "reversed_flips", "moved_past", "cells_past", "do_commute"):
            self.assertEqual(getattr(sequences, name).__module__, "paritycells.sequences")

    def test_one_flip_is_done_as_apply_flip_does_it(self):
        for flip in all_flips(3):
            for bits in all_bits(3):
                self.assertEqual(apply_flips(board_of(bits), [flip]), apply_flip(board_of(bits), flip))


if __name__ == "__main__":
    unittest.main()
