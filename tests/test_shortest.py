"""Shortest sequences, those that end at a board, and switching sequences."""

import itertools
import unittest

from checks import CheckCase
from models import (
    SIZES, all_bits, all_rows, bits_after, board_of, chance_for, least_flips, parity_of, rank_of_rows, some_bits,
    some_flips, some_history, switch_entry,
)
from paritycells import shortest
from paritycells.boards import Board
from paritycells.depth import changes_of, depth_of, witness_of
from paritycells.errors import NoEntry, Unchanged, Unlike
from paritycells.flips import Flip, add_flip, apply_flip, swap_flip, turn_flip
from paritycells.histories import History
from paritycells.past import flip_today
from paritycells.sequences import apply_flips
from paritycells.shortest import shortest_ending_at, shortest_flips, switching_flips
from paritycells.tables import Table, identity_table, table_of
from strange import NOT_STAMPS

ANN, BOB = (5, "ann", 0), (7, "bob", 0)
UNKNOWN = [(5, "ann", 1), (5, "bob", 0), (6, "ann", 0), (0, "a", 0), (10 ** 18, "zzzzzzzz", 10 ** 18)]


def two_entries():
    """Return the history of the interface's examples."""
    history = History(Board(4, up=[1]))
    history.enter(ANN, add_flip(1, to=2))
    history.enter(BOB, add_flip(2, to=3))
    return history


def gaps(table):
    """Return each row added to its own cell; their rank is the depth."""
    return [set(table.row(cell)) ^ {cell} for cell in range(table.size())]


def some_tables(size):
    """Return tables of no, few, some and many flips of a size."""
    chance = chance_for("tables", size)
    return [table_of(size, some_flips(chance, size, many)) for many in (0, 1, 2, 3, size // 2, 2 * size)]


class SequenceCase(CheckCase):

    def has_rows(self, flips, rows):
        """Expect a list of flips that do to every board of a small size what the rows say."""
        self.assertIs(flips.__class__, list)
        for flip in flips:
            self.assertIs(flip.__class__, Flip)
        for bits in all_bits(len(rows)):
            self.assertEqual(bits_after(bits, flips), [parity_of(bits, row) for row in rows])


class Shortest(SequenceCase):

    def test_no_sequence_with_fewer_flips_has_the_table(self):
        for size in range(1, 5):
            for rows, fewest in least_flips(size).items():
                flips = shortest_flips(Table([sorted(row) for row in rows]))
                self.assertEqual(len(flips), fewest)
                self.has_rows(flips, rows)

    def test_each_size(self):
        for size in SIZES:
            for table in some_tables(size):
                flips = shortest_flips(table)
                self.assertEqual(len(flips), rank_of_rows(gaps(table)))
                self.assertEqual(table_of(size, flips), table)

    def test_each_size_on_boards(self):
        for size in SIZES:
            chance = chance_for("boards", size)
            flips = some_flips(chance, size, 25)
            short = shortest_flips(table_of(size, flips))
            for index in range(5):
                bits = some_bits(chance, size)
                self.assertEqual(bits_after(bits, short), bits_after(bits, flips))

    def test_the_identity(self):
        for size in SIZES:
            self.assertEqual(shortest_flips(identity_table(size)), [])

    def test_one_flip_is_found_again(self):
        for size in (2, 3, 4, 9, 40):
            for flip in some_flips(chance_for("one flip", size), size, 30):
                expected = [] if flip.is_idle() else [flip]
                self.assertEqual(shortest_flips(table_of(size, [flip])), expected)

    def test_greatest_depth(self):
        table = Table([[0]] + [[cell - 1, cell] for cell in range(1, 40)])
        flips = shortest_flips(table)
        self.assertEqual([len(flips), table_of(40, flips)], [39, table])

    def test_permutations(self):
        table = table_of(40, [swap_flip(cell, cell + 1) for cell in range(1, 39)])
        flips = shortest_flips(table)
        self.assertEqual([len(flips), table_of(40, flips)], [38, table])

    def test_the_list_belongs_to_the_caller(self):
        table = table_of(4, [add_flip(1, to=2), add_flip(2, to=3)])
        found = shortest_flips(table)
        kept = list(found)
        found.clear()
        self.assertEqual(shortest_flips(table), kept)
        shortest_flips(identity_table(4)).append(turn_flip(1))
        self.assertEqual(shortest_flips(identity_table(4)), [])

    def test_arguments(self):
        self.takes(shortest_flips, "table")
        self.assertEqual(shortest_flips(table=table_of(3, [turn_flip(1)])), [turn_flip(1)])


class Ending(SequenceCase):

    def ends_right(self, table, board):
        """Expect a shortest sequence of the table whose last flip alone changes the board."""
        flips = shortest_ending_at(table, board)
        self.assertIs(flips.__class__, list)
        self.assertEqual(len(flips), rank_of_rows(gaps(table)))
        self.assertEqual(table_of(table.size(), flips), table)
        self.assertEqual(apply_flips(board, flips[:-1]), board)
        self.assertEqual(apply_flip(board, flips[-1]), table.image(board))

    def test_every_board_of_small_sizes(self):
        for size in range(1, 5):
            for rows in all_rows(size)[::1 if size < 4 else 3]:
                table = Table(rows)
                for bits in all_bits(size):
                    board = board_of(bits)
                    if [parity_of(bits, row) for row in rows] == bits:
                        self.fails(Unchanged, {"value": board}, shortest_ending_at, table, board)
                    else:
                        self.ends_right(table, board)

    def test_by_all_boards(self):
        for rows in all_rows(3):
            for bits in all_bits(3):
                if [parity_of(bits, row) for row in rows] != bits:
                    self.has_rows(shortest_ending_at(Table(rows), board_of(bits)), rows)

    def test_each_size(self):
        for size in SIZES:
            chance = chance_for("ending", size)
            for table in some_tables(size):
                boards = [board_of(some_bits(chance, size)) for index in range(2)] + witness_of(table)[:1]
                for board in boards:
                    if changes_of(table, board):
                        self.ends_right(table, board)
                    else:
                        self.fails(Unchanged, {"value": board}, shortest_ending_at, table, board)

    def test_unlike(self):
        for size, other in itertools.permutations((1, 2, 3, 39, 40), 2):
            for table in (identity_table(size), table_of(size, [turn_flip(1)] if size > 1 else [])):
                self.fails(Unlike, {"one": size, "other": other}, shortest_ending_at, table, Board(other))

    def test_unchanged(self):
        board = Board(4, up=[2])
        with self.assertRaises(Unchanged) as caught:
            shortest_ending_at(identity_table(4), board)
        self.assertIs(caught.exception.value, board)
        self.fails(Unchanged, {"value": Board(4)}, shortest_ending_at, table_of(4, [add_flip(1, to=2)]), Board(4))
        self.fails(Unchanged, {"value": Board(1)}, shortest_ending_at, identity_table(1), Board(1))

    def test_arguments_are_unchanged(self):
        table, board = table_of(4, [add_flip(1, to=2), add_flip(2, to=3)]), Board(4, up=[1])
        shortest_ending_at(table, board).clear()
        self.assertEqual(table, table_of(4, [add_flip(1, to=2), add_flip(2, to=3)]))
        self.assertEqual(board, Board(4, up=[1]))
        self.assertEqual(shortest_ending_at(table, board), shortest_ending_at(table, board))

    def test_arguments(self):
        self.takes(shortest_ending_at, "table", "board")
        self.assertEqual(shortest_ending_at(board=Board(3), table=table_of(3, [turn_flip(1)])), [turn_flip(1)])


class Switching(SequenceCase):

    def switches_right(self, history, model, stamps, starts):
        """Expect the board with these entries switched for each start board, with as few flips as any sequence."""
        before = history.copied()
        flips = switching_flips(history, stamps)
        self.assertIs(flips.__class__, list)
        self.assertEqual(history, before)
        standing = model.standing()
        for stamp in set(stamps):
            model.switch(stamp)
        switched = model.standing()
        for stamp in set(stamps):
            model.switch(stamp)
        for bits in starts:
            self.assertEqual(bits_after(bits_after(bits, standing), flips), bits_after(bits, switched))
        size = len(model.bits)
        needed = table_of(size, standing[::-1] + switched)
        self.assertEqual(len(flips), rank_of_rows(gaps(needed)))
        self.assertLessEqual(len(flips), len(set(stamps)))

    def test_every_start_board_of_small_sizes(self):
        chance = chance_for("switching")
        for size in (1, 2, 3, 4):
            for index in range(15):
                history, model = some_history(chance, size, chance.choice([1, 2, 5, 10]))
                stamps = [stamp for stamp in model.rows if chance.random() < 0.5]
                chance.shuffle(stamps)
                self.switches_right(history, model, stamps, all_bits(size))
                self.switches_right(history, model, stamps + stamps[:2] + stamps[:1], all_bits(size))
                self.switches_right(history, model, tuple(model.rows), all_bits(size))

    def test_each_size(self):
        for size in SIZES:
            chance = chance_for("switching", size)
            history, model = some_history(chance, size, 12)
            stamps = chance.sample(sorted(model.rows), 4)
            self.switches_right(history, model, stamps, [some_bits(chance, size) for index in range(4)])

    def test_300_entries_on_40_cells(self):
        chance = chance_for("switching most")
        history, model = some_history(chance, 40, 300)
        starts = [some_bits(chance, 40) for index in range(3)]
        for many in (1, 7, 60, 300):
            self.switches_right(history, model, chance.sample(sorted(model.rows), many), starts)

    def test_the_history_itself_switched(self):
        chance = chance_for("itself")
        for size in (3, 5, 12):
            history, model = some_history(chance, size, 10)
            stamps = chance.sample(sorted(model.rows), 5)
            flips = switching_flips(history, stamps)
            board = history.board()
            for stamp in stamps:
                switch_entry(history, stamp)
            self.assertEqual(apply_flips(board, flips), history.board())

    def test_one_entry_is_its_flip_today(self):
        chance = chance_for("one entry")
        for size in (2, 3, 6, 20):
            history, model = some_history(chance, size, 9)
            for stamp in model.rows:
                today = flip_today(history, stamp)
                self.assertEqual(switching_flips(history, [stamp]), [] if today.is_idle() else [today])

    def test_entries_that_cancel_each_other(self):
        history = History(Board(4))
        history.enter((1, "a", 0), add_flip(1, to=2))
        history.enter((2, "a", 0), add_flip(1, to=2))
        self.assertEqual(switching_flips(history, [(1, "a", 0), (2, "a", 0)]), [])
        self.assertEqual(switching_flips(history, [(1, "a", 0)]), [add_flip(1, to=2)])

    def test_a_stamp_twice_counts_once(self):
        history = two_entries()
        self.assertEqual(switching_flips(history, [ANN, ANN]), [Flip([1], [2, 3])])
        self.assertEqual(switching_flips(history, [ANN, (5, "ann", 0), ANN]), [Flip([1], [2, 3])])

    def test_standing_and_removed_entries(self):
        history = two_entries()
        history.remove(BOB)
        self.assertEqual(switching_flips(history, [BOB]), [add_flip(2, to=3)])
        self.assertEqual(switching_flips(history, [ANN]), [add_flip(1, to=2)])
        history.remove(ANN)
        flips = switching_flips(history, (BOB, ANN))
        self.assertEqual([len(flips), str(apply_flips(history.board(), flips))], [2, "1111"])

    def test_an_empty_list(self):
        for stamps in ([], ()):
            self.assertEqual(switching_flips(two_entries(), stamps), [])
            self.assertEqual(switching_flips(History(Board(1)), stamps), [])

    def test_no_entry_for_the_first_item_that_is_not(self):
        history = two_entries()
        history.enter((1, "ann", 0), turn_flip(1))
        before = history.copied()
        for wrong in NOT_STAMPS + UNKNOWN:
            for stamps in ([wrong], (wrong,), [ANN, wrong, (9, "eve", 9)], [ANN, ANN, BOB, wrong, None]):
                with self.subTest(repr(wrong)):
                    with self.assertRaises(NoEntry) as caught:
                        switching_flips(history, stamps)
                    self.assertIs(caught.exception.stamp, wrong)
        self.assertEqual(history, before)

    def test_arguments_are_unchanged(self):
        history, stamps = two_entries(), [BOB, ANN, BOB]
        found = switching_flips(history, stamps)
        self.assertEqual([history, stamps], [two_entries(), [BOB, ANN, BOB]])
        kept = list(found)
        found.clear()
        self.assertEqual(switching_flips(history, stamps), kept)

    def test_arguments(self):
        self.takes(switching_flips, "history", "stamps")
        self.assertEqual(switching_flips(stamps=[ANN], history=two_entries()), [Flip([1], [2, 3])])


class Places(CheckCase):

    def test_defined_in_this_file(self):
        for name in ("shortest_flips", "shortest_ending_at", "switching_flips"):
            self.assertEqual(getattr(shortest, name).__module__, "paritycells.shortest")

    def test_as_many_flips_as_the_depth(self):
        for rows in all_rows(4)[::11]:
            self.assertEqual(len(shortest_flips(Table(rows))), depth_of(Table(rows)))


if __name__ == "__main__":
    unittest.main()
