"""The past: boards and parities at a time, flips today, and entries that acted or matter."""

import itertools
import unittest

from checks import CheckCase, subsets
from models import (
    SIZES, Entries, all_bits, bits_after, bits_of, board_of, chance_for, parity_of, some_cells, some_history,
    switch_entry,
)
from paritycells import past
from paritycells.boards import Board
from paritycells.errors import NoCell, NoCells, NoEntry, NoTime
from paritycells.flips import Flip, add_flip, apply_flip, turn_flip
from paritycells.histories import History
from paritycells.past import board_at, cells_today, does_matter, flip_today, has_acted, parity_at
from strange import NOT_CELLS, NOT_INTEGERS, NOT_STAMPS

ANN, BOB = (5, "ann", 0), (7, "bob", 0)
UNKNOWN = [(5, "ann", 1), (5, "bob", 0), (6, "ann", 0), (0, "a", 0), (10 ** 18, "zzzzzzzz", 10 ** 18)]
# The stamps of some_history have the times 0, 3, 5, 7 and 10 ** 18.
TIMES = [0, 1, 2, 3, 4, 5, 6, 7, 8, 10 ** 9, 10 ** 18 - 1, 10 ** 18]
NOT_TIMES = NOT_INTEGERS + [-1, -5, 10 ** 18 + 1, 10 ** 30, -10 ** 18, (5, "ann", 0)]


def two_entries():
    """Return the history of the interface's examples."""
    history = History(Board(4, up=[1]))
    history.enter(ANN, add_flip(1, to=2))
    history.enter(BOB, add_flip(2, to=3))
    return history


def histories(*seed):
    """Return a history with its model for several sizes and numbers of entries."""
    chance = chance_for("past", *seed)
    sizes = [1, 2, 3, 3, 4, 4, 5, 5, 8, 17, 40]
    return [some_history(chance, size, chance.choice([0, 1, 3, 8, 14])) for size in sizes]


def moved(tested, toggled, later):
    """Return the tested and toggled cells moved past the later flips, by the words of the document."""
    tested, toggled = set(tested), set(toggled)
    for flip in later:
        more_tested = len(tested & set(flip.toggled())) % 2 == 1
        more_toggled = len(toggled & set(flip.tested())) % 2 == 1
        tested = tested ^ set(flip.tested()) if more_tested else tested
        toggled = toggled ^ set(flip.toggled()) if more_toggled else toggled
    return tuple(sorted(tested)), tuple(sorted(toggled))


def switched(model, stamp):
    """Return the states today with this entry switched."""
    model.switch(stamp)
    now = model.now()
    model.switch(stamp)
    return now


class PastCase(CheckCase):
    """Expects errors with the very value that was passed, and a history that does not change."""

    def keeps(self, history, error, field, value, call, *values, **named):
        before = history.copied()
        with self.assertRaises(error) as caught:
            call(history, *values, **named)
        self.assertIs(caught.exception.__class__, error)
        self.assertIs(getattr(caught.exception, field), value)
        self.assertEqual(list(vars(caught.exception)), [field])
        self.assertEqual(history, before)


class Today(PastCase):

    def test_by_the_definition(self):
        for history, model in histories("today"):
            before = history.copied()
            for stamp in model.rows:
                later = model.standing(lambda each: each > stamp)
                flip = model.rows[stamp][0]
                found = flip_today(history, stamp)
                self.assertIs(found.__class__, Flip)
                expected = moved(flip.tested(), flip.toggled(), later)
                self.assertEqual((found.tested(), found.toggled()), expected)
            self.assertEqual(history, before)

    def test_switching_changes_the_board_exactly_so(self):
        for history, model in histories("switching"):
            for stamp in list(model.rows):
                reached = apply_flip(history.board(), flip_today(history, stamp))
                self.assertEqual(bits_of(reached), switched(model, stamp))
                twin = history.copied()
                switch_entry(twin, stamp)
                self.assertEqual(reached, twin.board())

    def test_for_every_start_board(self):
        chance = chance_for("every start")
        for size in (2, 3, 4):
            history, model = some_history(chance, size, 10)
            for stamp, bits in itertools.product(list(model.rows), all_bits(size)):
                model.bits = bits
                self.assertEqual(bits_after(model.now(), [flip_today(history, stamp)]), switched(model, stamp))

    def test_standing_and_removed_entries(self):
        history = two_entries()
        self.assertEqual(str(flip_today(history, ANN)), "1>2,3")
        history.remove(ANN)
        self.assertEqual(str(flip_today(history, ANN)), "1>2,3")
        history.remove(BOB)
        self.assertEqual(str(flip_today(history, ANN)), "1>2")
        self.assertEqual(str(flip_today(history, BOB)), "2>3")

    def test_later_entries_of_the_same_time_count(self):
        history = History(Board(4, up=[1]))
        history.enter((5, "bob", 1), add_flip(2, to=3))
        history.enter((5, "bob", 0), add_flip(1, to=2))
        history.enter((5, "ann", 9), turn_flip(1))
        self.assertEqual(str(flip_today(history, (5, "bob", 0))), "1>2,3")
        self.assertEqual(str(flip_today(history, (5, "ann", 9))), "0>1,2,3")
        self.assertEqual(str(flip_today(history, (5, "bob", 1))), "2>3")

    def test_no_entry(self):
        history = two_entries()
        history.enter((1, "ann", 0), turn_flip(1))
        for stamp in NOT_STAMPS + UNKNOWN:
            with self.subTest(repr(stamp)):
                self.keeps(history, NoEntry, "stamp", stamp, flip_today, stamp)

    def test_arguments(self):
        self.takes(flip_today, "history", "stamp")
        self.assertEqual(str(flip_today(stamp=ANN, history=two_entries())), "1>2,3")


class BoardAt(PastCase):

    def test_against_the_model(self):
        for history, model in histories("board"):
            before = history.copied()
            for time in TIMES:
                found = board_at(history, time=time)
                self.assertIs(found.__class__, Board)
                expected = bits_after(model.bits, model.standing(lambda stamp: stamp[0] <= time))
                self.assertEqual(bits_of(found), expected)
            self.assertEqual(board_at(history, time=10 ** 18), history.board())
            self.assertEqual(history, before)

    def test_before_at_between_and_after_the_stamps(self):
        boards = [str(board_at(two_entries(), time=time)) for time in (0, 4, 5, 6, 7, 8, 10 ** 18)]
        self.assertEqual(boards, ["1100", "1100", "1110", "1110", "1111", "1111", "1111"])

    def test_an_entry_at_time_0(self):
        history = History(Board(3))
        history.enter((0, "ann", 10 ** 18), turn_flip(1))
        self.assertEqual(str(board_at(history, time=0)), "110")

    def test_an_entry_at_the_last_time(self):
        history = History(Board(3))
        history.enter((10 ** 18, "zzzzzzzz", 10 ** 18), turn_flip(1))
        self.assertEqual(str(board_at(history, time=10 ** 18 - 1)), "100")
        self.assertEqual(str(board_at(history, time=10 ** 18)), "110")

    def test_no_time(self):
        history = two_entries()
        for time in NOT_TIMES:
            with self.subTest(repr(time)):
                self.keeps(history, NoTime, "time", time, board_at, time=time)

    def test_arguments(self):
        self.takes(board_at, "history", "*", "time")
        self.assertEqual(str(board_at(time=5, history=two_entries())), "1110")
        with self.assertRaises(TypeError):
            board_at(two_entries(), 5)


class CellsToday(PastCase):

    def test_by_the_definition(self):
        for history, model in histories("cells"):
            chance = chance_for("some cells", len(model.bits))
            before = history.copied()
            for time in TIMES:
                later = model.standing(lambda stamp: stamp[0] > time)
                for index in range(4):
                    cells = some_cells(chance, len(model.bits))
                    chance.shuffle(cells)
                    expected = moved(cells, [], later)[0]
                    for given in (cells, tuple(cells)):
                        found = cells_today(history, given, time=time)
                        self.assertEqual(found, expected)
                        self.assertIs(found.__class__, tuple)
            self.assertEqual(history, before)

    def test_the_parity_today_is_the_parity_then(self):
        chance = chance_for("parity then")
        for size in (1, 2, 3, 4):
            history, model = some_history(chance, size, 9)
            for time, cells in itertools.product(TIMES, subsets(range(size))):
                today = cells_today(history, cells, time=time)
                for bits in all_bits(size):
                    then = bits_after(bits, model.standing(lambda stamp: stamp[0] <= time))
                    self.assertEqual(parity_of(bits_after(bits, model.standing()), today), parity_of(then, cells))

    def test_entries_of_that_time_are_done_already(self):
        history = two_entries()
        found = [cells_today(history, [3], time=time) for time in (4, 5, 6, 7, 8)]
        self.assertEqual(found, [(2, 3), (2, 3), (2, 3), (3,), (3,)])
        found = [cells_today(history, [2], time=time) for time in (4, 5, 6)]
        self.assertEqual(found, [(1, 2), (2,), (2,)])

    def test_no_cells(self):
        for size in (1, 2, 40):
            history = History(Board(size))
            for cells in NOT_CELLS + [[size], (0, size)]:
                for call, time in itertools.product((cells_today, parity_at), (5, -1, True, None)):
                    with self.subTest(repr(cells), size=size, time=time):
                        self.keeps(history, NoCells, "cells", cells, call, cells, time=time)

    def test_no_time(self):
        history = two_entries()
        for time, call, cells in itertools.product(NOT_TIMES, (cells_today, parity_at), ([], [3], (3, 1))):
            with self.subTest(repr(time)):
                self.keeps(history, NoTime, "time", time, call, cells, time=time)

    def test_argument_is_unchanged(self):
        cells = [3, 1]
        found = cells_today(two_entries(), cells, time=5)
        parity_at(two_entries(), cells, time=5)
        self.assertEqual(cells, [3, 1])
        cells.clear()
        self.assertEqual(found, (1, 2, 3))

    def test_arguments(self):
        self.takes(cells_today, "history", "cells", "*", "time")
        self.assertEqual(cells_today(time=5, cells=[3], history=two_entries()), (2, 3))
        with self.assertRaises(TypeError):
            cells_today(two_entries(), [3], 5)


class ParityAt(PastCase):

    def test_against_the_model(self):
        for history, model in histories("parity"):
            chance = chance_for("parity cells", len(model.bits))
            before = history.copied()
            for time in TIMES:
                then = bits_after(model.bits, model.standing(lambda stamp: stamp[0] <= time))
                for index in range(4):
                    cells = some_cells(chance, len(model.bits))
                    found = parity_at(history, cells, time=time)
                    self.assertEqual(found, parity_of(then, cells))
                    self.assertIs(found.__class__, int)
            self.assertEqual(history, before)

    def test_no_cells_at_all(self):
        self.assertEqual(parity_at(two_entries(), [], time=5), 0)
        self.assertEqual(parity_at(two_entries(), (0,), time=5), 1)

    def test_arguments(self):
        self.takes(parity_at, "history", "cells", "*", "time")
        self.assertEqual(parity_at(time=7, cells=[3], history=two_entries()), 1)
        with self.assertRaises(TypeError):
            parity_at(two_entries(), [3], 5)


class Acted(PastCase):

    def test_against_the_model(self):
        for history, model in histories("acted"):
            before = history.copied()
            for stamp in model.rows:
                there = bits_after(model.bits, model.standing(lambda each: each < stamp))
                expected = bits_after(there, [model.rows[stamp][0]]) != there
                self.assertIs(has_acted(history, stamp), expected)
            self.assertEqual(history, before)

    def test_standing_and_removed_entries(self):
        history = two_entries()
        self.assertEqual([has_acted(history, ANN), has_acted(history, BOB)], [True, True])
        history.remove(BOB)
        self.assertEqual([has_acted(history, ANN), has_acted(history, BOB)], [True, True])
        history.remove(ANN)
        self.assertEqual([has_acted(history, ANN), has_acted(history, BOB)], [True, False])
        history.restore(BOB)
        self.assertEqual([has_acted(history, ANN), has_acted(history, BOB)], [True, False])

    def test_idle_flips_never_act(self):
        history = History(Board(3))
        history.enter(ANN, Flip([0], []))
        history.enter(BOB, Flip([], [1]))
        self.assertEqual([has_acted(history, ANN), has_acted(history, BOB)], [False, False])

    def test_later_entries_have_no_effect(self):
        history = History(Board(3))
        history.enter(ANN, add_flip(1, to=2))
        history.enter(BOB, turn_flip(1))
        self.assertIs(has_acted(history, ANN), False)
        history.enter((5, "ana", 5), turn_flip(1))
        self.assertIs(has_acted(history, ANN), True)

    def test_no_entry(self):
        history = two_entries()
        history.enter((1, "ann", 0), turn_flip(1))
        for stamp in NOT_STAMPS + UNKNOWN:
            with self.subTest(repr(stamp)):
                self.keeps(history, NoEntry, "stamp", stamp, has_acted, stamp)

    def test_arguments(self):
        self.takes(has_acted, "history", "stamp")
        self.assertIs(has_acted(stamp=BOB, history=two_entries()), True)


class Matter(PastCase):

    def test_against_the_model(self):
        for history, model in histories("matter"):
            before = history.copied()
            for stamp in list(model.rows):
                now, then = model.now(), switched(model, stamp)
                for cell in range(len(now)):
                    self.assertIs(does_matter(history, stamp, cell=cell), now[cell] != then[cell])
            self.assertEqual(history, before)

    def test_cell_0_never_matters(self):
        history = two_entries()
        self.assertIs(does_matter(history, ANN, cell=0), False)

    def test_no_entry_ahead_of_no_cell(self):
        history = two_entries()
        history.enter((1, "ann", 0), turn_flip(1))
        for stamp, cell in itertools.product(NOT_STAMPS + UNKNOWN, (3, 4, True, None)):
            with self.subTest(repr(stamp), cell=cell):
                self.keeps(history, NoEntry, "stamp", stamp, does_matter, stamp, cell=cell)

    def test_no_cell(self):
        history = two_entries()
        for cell in NOT_INTEGERS + [-1, -4, 4, 5, 40, 10 ** 30]:
            with self.subTest(repr(cell)):
                self.keeps(history, NoCell, "cell", cell, does_matter, ANN, cell=cell)

    def test_arguments(self):
        self.takes(does_matter, "history", "stamp", "*", "cell")
        self.assertIs(does_matter(cell=3, stamp=ANN, history=two_entries()), True)
        with self.assertRaises(TypeError):
            does_matter(two_entries(), ANN, 3)


class Most(PastCase):

    def test_300_entries_on_40_cells(self):
        history, model = some_history(chance_for("300"), 40, 300)
        chance = chance_for("300 asked")
        before = history.copied()
        for stamp in chance.sample(sorted(model.rows), 12) + [min(model.rows), max(model.rows)]:
            now, then = model.now(), switched(model, stamp)
            self.assertEqual(bits_after(now, [flip_today(history, stamp)]), then)
            there = bits_after(model.bits, model.standing(lambda each: each < stamp))
            self.assertIs(has_acted(history, stamp), bits_after(there, [model.rows[stamp][0]]) != there)
            for cell in (0, 1, 20, 39):
                self.assertIs(does_matter(history, stamp, cell=cell), now[cell] != then[cell])
        for time in (0, 1, 17, 50, 99, 100, 10 ** 18):
            then = bits_after(model.bits, model.standing(lambda stamp: stamp[0] <= time))
            self.assertEqual(bits_of(board_at(history, time=time)), then)
            cells = some_cells(chance, 40)
            self.assertEqual(parity_of(model.now(), cells_today(history, cells, time=time)), parity_of(then, cells))
            self.assertEqual(parity_at(history, cells, time=time), parity_of(then, cells))
        self.assertEqual(history, before)

    def test_no_entries(self):
        for size in SIZES:
            bits = Entries([1] + [0, 1] * 20).bits[:size]
            history = History(board_of(bits))
            self.assertEqual(bits_of(board_at(history, time=0)), bits)
            self.assertEqual(cells_today(history, list(range(size))[::-1], time=0), tuple(range(size)))
            self.assertEqual(parity_at(history, [size - 1], time=10 ** 18), bits[-1])


class Places(PastCase):

    def test_defined_in_this_file(self):
        for name in ("flip_today", "board_at", "cells_today", "parity_at", "has_acted", "does_matter"):
            self.assertEqual(getattr(past, name).__module__, "paritycells.past")

    def test_repeated_calls(self):
        history = two_entries()
        for call in (flip_today, has_acted):
            self.assertEqual(call(history, ANN), call(history, ANN))
        self.assertEqual(board_at(history, time=5), board_at(history, time=5))
        self.assertEqual(cells_today(history, [3], time=5), cells_today(history, [3], time=5))


if __name__ == "__main__":
    unittest.main()
