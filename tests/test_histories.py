"""Histories: entries in the order of their stamps, removed and restored."""

import itertools
import unittest
from unittest import mock

from checks import CheckCase
from models import SIZES, Entries, bits_of, board_of, chance_for, some_bits, some_flip, some_history, some_stamp
from paritycells import histories
from paritycells.boards import Board
from paritycells.errors import NoEntry, NoStamp, Removed, Standing, Taken, TooMany, TooWide
from paritycells.flips import Flip, add_flip, turn_flip
from paritycells.histories import MOST_ENTRIES, History
from paritycells.sequences import apply_flips
from strange import NOT_STAMPS, Thing

METHODS = ("enter", "remove", "restore", "start", "board", "stamps", "flip", "stands", "changes", "copied")
ANN, BOB = (5, "ann", 0), (7, "bob", 0)
UNKNOWN = [(5, "ann", 1), (5, "bob", 0), (6, "ann", 0), (0, "a", 0), (10 ** 18, "zzzzzzzz", 10 ** 18)]


def two_entries():
    """Return the history of the interface's examples."""
    history = History(Board(4, up=[1]))
    history.enter(ANN, add_flip(1, to=2))
    history.enter(BOB, add_flip(2, to=3))
    return history


def full_history():
    """Return a history with 300 entries."""
    history = History(Board(4, up=[1]))
    for number in range(300):
        history.enter((number % 7, "ann", number), add_flip(1 + number % 2, to=3))
    return history


def state_of(history):
    """Return all that a history tells of itself."""
    rows = [(stamp, history.flip(stamp), history.stands(stamp), history.changes(stamp)) for stamp in history.stamps()]
    return [str(history.start()), str(history.board()), len(history), rows]


class HistoryCase(CheckCase):
    """Compares a history with its model, and with itself before a call that raises."""

    def agrees(self, history, model):
        """Expect all that the model holds."""
        stamps = sorted(model.rows)
        self.assertEqual([history.stamps(), len(history)], [stamps, len(stamps)])
        for stamp in stamps:
            told = [history.flip(stamp), history.stands(stamp), history.changes(stamp)]
            self.assertEqual(told, model.rows[stamp])
            self.assertEqual([history.stands(stamp).__class__, history.changes(stamp).__class__], [bool, int])
        self.assertEqual(bits_of(history.start()), model.bits)
        self.assertEqual(bits_of(history.board()), model.now())

    def keeps(self, history, error, field, value, call, *values):
        """Expect an error with the very value as its field, and no change of the history."""
        before = state_of(history)
        with self.assertRaises(error) as caught:
            call(*values)
        self.assertIs(caught.exception.__class__, error)
        self.assertIs(getattr(caught.exception, field), value)
        self.assertEqual(list(vars(caught.exception)), [field])
        self.assertEqual(state_of(history), before)


class Made(HistoryCase):

    def test_each_size(self):
        for size in SIZES:
            board = board_of(some_bits(chance_for("made", size), size))
            history = History(board)
            self.assertEqual([history.start(), history.board()], [board, board])
            self.assertEqual([len(history), history.stamps()], [0, []])

    def test_no_shared_state(self):
        one, other = History(Board(4)), History(Board(4))
        one.enter(ANN, turn_flip(1))
        self.assertEqual([len(other), other.stamps(), str(other.board())], [0, [], "1000"])

    def test_most_entries(self):
        self.assertEqual(MOST_ENTRIES, 300)
        self.assertIs(MOST_ENTRIES.__class__, int)

    def test_arguments(self):
        self.takes(History, "board")
        self.assertEqual(History(board=Board(3)).start(), Board(3))


class Entered(HistoryCase):

    def test_a_new_entry_stands_without_changes(self):
        history = History(Board(4, up=[1]))
        self.assertIsNone(history.enter(ANN, add_flip(1, to=2)))
        self.assertEqual([history.flip(ANN), history.stands(ANN), history.changes(ANN)], [add_flip(1, to=2), True, 0])
        self.assertEqual([str(history.board()), str(history.start())], ["1110", "1100"])

    def test_any_order_of_stamps(self):
        flips = {
            (0, "ann", 0): add_flip(1, to=2), (0, "ann", 1): add_flip(2, to=3), (0, "b", 0): add_flip(3, to=1),
            (9, "a", 5): add_flip(2, to=1), (10, "a", 0): turn_flip(2),
        }
        model = Entries([1, 1, 0, 0])
        for stamp, flip in flips.items():
            model.enter(stamp, flip)
        for order in itertools.permutations(flips):
            history = History(Board(4, up=[1]))
            for stamp in order:
                history.enter(stamp, flips[stamp])
            self.agrees(history, model)

    def test_stamps_are_ordered_as_tuples(self):
        stamps = [
            (0, "z", 10 ** 18), (2, "a", 0), (2, "aa", 0), (2, "ab", 0), (2, "b", 2), (2, "b", 10), (10, "a", 0),
            (10 ** 18, "a", 0), (10 ** 18, "zzzzzzzz", 10 ** 18),
        ]
        for shift in range(len(stamps)):
            history = History(Board(2))
            for stamp in stamps[shift:] + stamps[:shift]:
                history.enter(stamp, turn_flip(1))
            self.assertEqual(history.stamps(), stamps)

    def test_no_stamp(self):
        history = two_entries()
        for stamp in NOT_STAMPS:
            for flip in (turn_flip(1), turn_flip(39)):
                with self.subTest(repr(stamp)):
                    self.keeps(history, NoStamp, "stamp", stamp, history.enter, stamp, flip)

    def test_no_stamp_in_a_full_history(self):
        history = full_history()
        for stamp in ((1, "ann", True), [1, "ann", 1], None):
            self.keeps(history, NoStamp, "stamp", stamp, history.enter, stamp, turn_flip(1))

    def test_too_wide(self):
        for size in (1, 2, 4, 39):
            history = History(Board(size))
            for flip in (turn_flip(size), Flip([size], []), Flip([], [size])):
                self.fails(TooWide, {"needed": size + 1}, history.enter, ANN, flip)
                self.assertEqual([len(history), history.stamps()], [0, []])
            if size > 1:
                history.enter(ANN, turn_flip(size - 1))
                self.assertEqual(len(history), 1)

    def test_too_wide_ahead_of_taken_and_too_many(self):
        history = full_history()
        before = state_of(history)
        self.fails(TooWide, {"needed": 5}, history.enter, (0, "ann", 0), turn_flip(4))
        self.fails(TooWide, {"needed": 40}, history.enter, (0, "bob", 0), turn_flip(39))
        self.assertEqual(state_of(history), before)

    def test_taken(self):
        history = two_entries()
        for flip in (add_flip(1, to=2), turn_flip(3)):
            self.fails(Taken, {"stamp": ANN}, history.enter, (5, "ann", 0), flip)
        history.remove(ANN)
        before = state_of(history)
        self.fails(Taken, {"stamp": ANN}, history.enter, (5, "ann", 0), add_flip(1, to=2))
        self.assertEqual(state_of(history), before)

    def test_300_entries_and_one_more(self):
        history = full_history()
        self.assertEqual([len(history), len(history.stamps())], [300, 300])
        before = state_of(history)
        self.fails(TooMany, {"limit": 300}, history.enter, (0, "bob", 0), turn_flip(1))
        self.assertEqual(state_of(history), before)
        history.remove((0, "ann", 0))
        self.fails(TooMany, {"limit": 300}, history.enter, (0, "bob", 0), turn_flip(1))
        history.restore((0, "ann", 0))
        self.assertEqual(history.changes((0, "ann", 0)), 2)

    def test_taken_ahead_of_too_many(self):
        history = full_history()
        self.fails(Taken, {"stamp": (0, "ann", 0)}, history.enter, (0, "ann", 0), turn_flip(1))
        history = History(Board(2))
        for number in range(299):
            history.enter((0, "a", number), turn_flip(1))
        self.fails(Taken, {"stamp": (0, "a", 5)}, history.enter, (0, "a", 5), turn_flip(1))
        history.enter((0, "a", 299), turn_flip(1))
        self.fails(TooMany, {"limit": 300}, history.enter, (0, "a", 300), turn_flip(1))

    def test_arguments(self):
        history = two_entries()
        self.takes(history.enter, "stamp", "flip")
        history.enter(flip=turn_flip(1), stamp=(6, "ann", 0))
        self.assertEqual(history.flip((6, "ann", 0)), turn_flip(1))


class Switched(HistoryCase):

    def test_again_and_again(self):
        for size in (1, 2, 3, 5, 12, 40):
            chance = chance_for("switched", size)
            bits = some_bits(chance, size)
            history, model = History(board_of(bits)), Entries(bits)
            for index in range(120):
                self.one_step(chance, size, history, model)
                self.agrees(history, model)

    def one_step(self, chance, size, history, model):
        """Enter, remove or restore in the history and the model, or expect the error for it."""
        stamp = some_stamp(chance)
        action = chance.choice(["enter", "remove", "restore"])
        if action == "enter" and stamp not in model.rows:
            flip = some_flip(chance, size)
            model.enter(stamp, flip)
            self.assertIsNone(history.enter(stamp, flip))
        elif action == "enter":
            self.fails(Taken, {"stamp": stamp}, history.enter, stamp, some_flip(chance, size))
        elif stamp not in model.rows:
            self.fails(NoEntry, {"stamp": stamp}, getattr(history, action), stamp)
        elif model.rows[stamp][1] == (action == "remove"):
            model.switch(stamp)
            self.assertIsNone(getattr(history, action)(stamp))
        else:
            error = Removed if action == "remove" else Standing
            self.fails(error, {"stamp": stamp}, getattr(history, action), stamp)

    def test_counts_and_states(self):
        history = two_entries()
        for count in range(12):
            self.assertEqual([history.stands(ANN), history.changes(ANN)], [count % 2 == 0, count])
            self.assertEqual([history.stands(BOB), history.changes(BOB)], [True, 0])
            self.assertEqual(str(history.board()), "1111" if count % 2 == 0 else "1100")
            if count % 2 == 0:
                self.assertIsNone(history.remove(ANN))
            else:
                self.assertIsNone(history.restore(ANN))

    def test_removed_and_standing(self):
        history = two_entries()
        self.fails(Standing, {"stamp": BOB}, history.restore, (7, "bob", 0))
        history.remove(BOB)
        before = state_of(history)
        self.fails(Removed, {"stamp": BOB}, history.remove, (7, "bob", 0))
        self.assertEqual(state_of(history), before)
        history.restore(BOB)
        before = state_of(history)
        self.fails(Standing, {"stamp": BOB}, history.restore, (7, "bob", 0))
        self.assertEqual(state_of(history), before)

    def test_no_entry_for_any_value(self):
        history = two_entries()
        history.enter((1, "ann", 0), turn_flip(1))
        history.remove((1, "ann", 0))
        calls = (history.remove, history.restore, history.flip, history.stands, history.changes)
        for stamp, call in itertools.product(NOT_STAMPS + UNKNOWN, calls):
            with self.subTest(repr(stamp), call=call.__name__):
                self.keeps(history, NoEntry, "stamp", stamp, call, stamp)

    def test_arguments(self):
        history = two_entries()
        for call in (history.remove, history.restore, history.flip, history.stands, history.changes):
            self.takes(call, "stamp")
        history.remove(stamp=ANN)
        self.assertEqual([history.stands(stamp=ANN), history.changes(stamp=ANN)], [False, 1])
        history.restore(stamp=ANN)
        self.assertEqual([history.flip(stamp=ANN), history.changes(stamp=ANN)], [add_flip(1, to=2), 2])


class Told(HistoryCase):

    def test_each_size_against_the_model(self):
        for size in SIZES:
            history, model = some_history(chance_for("told", size), size, 12)
            self.agrees(history, model)

    def test_300_entries_on_40_cells(self):
        history, model = some_history(chance_for("most"), 40, 300)
        self.agrees(history, model)

    def test_the_board_by_the_standing_flips(self):
        history = two_entries()
        history.enter((6, "ann", 0), add_flip(2, to=1))
        flips = [add_flip(1, to=2), add_flip(2, to=1), add_flip(2, to=3)]
        self.assertEqual(history.board(), apply_flips(Board(4, up=[1]), flips))
        history.remove((6, "ann", 0))
        self.assertEqual(history.board(), apply_flips(Board(4, up=[1]), [flips[0], flips[2]]))

    def test_the_returned_list_belongs_to_the_caller(self):
        history = two_entries()
        found = history.stamps()
        self.assertIs(found.__class__, list)
        found.clear()
        found.append((1, "eve", 0))
        self.assertEqual([history.stamps(), len(history)], [[ANN, BOB], 2])
        self.assertIsNot(history.stamps(), history.stamps())

    def test_no_parameters(self):
        history = two_entries()
        for call in (history.start, history.board, history.stamps, history.copied):
            self.takes(call)
            self.assertEqual(call(), call())


class Copied(HistoryCase):

    def test_the_same_state(self):
        for size in (1, 4, 40):
            history, model = some_history(chance_for("copied", size), size, 10)
            twin = history.copied()
            self.assertIs(twin.__class__, History)
            self.assertTrue(twin == history)
            self.agrees(twin, model)

    def test_independent(self):
        history = two_entries()
        history.remove(BOB)
        twin = history.copied()
        before = state_of(history)
        twin.remove(ANN)
        twin.restore(BOB)
        twin.enter((6, "ann", 0), turn_flip(1))
        self.assertEqual(state_of(history), before)
        self.assertFalse(twin == history)
        after = state_of(twin)
        history.restore(BOB)
        history.remove(BOB)
        history.enter((8, "ann", 0), turn_flip(2))
        self.assertEqual(state_of(twin), after)

    def test_a_copy_has_the_same_limit(self):
        twin = full_history().copied()
        self.fails(TooMany, {"limit": 300}, twin.enter, (0, "bob", 0), turn_flip(1))


class Compared(HistoryCase):

    def test_equal(self):
        self.assertTrue(two_entries() == two_entries())
        self.assertFalse(two_entries() != two_entries())
        self.assertTrue(History(Board(4)) == History(Board(4)))

    def test_the_order_of_entering_has_no_effect(self):
        history = History(Board(4, up=[1]))
        history.enter(BOB, add_flip(2, to=3))
        history.enter(ANN, add_flip(1, to=2))
        self.assertTrue(history == two_entries())

    def test_start_boards(self):
        self.assertFalse(History(Board(4)) == History(Board(5)))
        self.assertFalse(History(Board(4)) == History(Board(4, up=[1])))

    def test_entries_flips_states_and_changes(self):
        others = [two_entries() for index in range(6)]
        others[0].remove(ANN)
        others[1].remove(ANN)
        others[1].restore(ANN)
        others[2].enter((6, "ann", 0), Flip([], []))
        others[3].remove(BOB)
        others[4].remove(ANN)
        others[4].restore(ANN)
        others[4].remove(ANN)
        others[5].remove(ANN)
        others[5].remove(BOB)
        others.append(History(Board(4, up=[1])))
        others[-1].enter(ANN, add_flip(1, to=2))
        others[-1].enter(BOB, add_flip(1, to=3))
        others.append(History(Board(4, up=[1])))
        others[-1].enter(ANN, add_flip(1, to=2))
        others[-1].enter((7, "bob", 1), add_flip(2, to=3))
        others.append(two_entries())
        for (index, one), (place, other) in itertools.product(enumerate(others), repeat=2):
            self.assertIs(one == other, index == place)
            self.assertIs(one != other, index != place)

    def test_nothing_else(self):
        history = two_entries()
        for other in (None, True, 2, "history", [ANN, BOB], {}, object(), Thing(), History, Board(4, up=[1]), mock.ANY):
            with self.subTest(repr(other)):
                self.assertIs(history == other, False)
                self.assertIs(history != other, True)

    def test_another_object_with_the_same_fields(self):
        history = two_entries()
        thing = Thing()
        vars(thing).update(vars(history))
        self.assertIs(history == thing, False)


class Places(HistoryCase):

    def test_defined_in_this_file_and_class(self):
        self.assertEqual(histories.History.__module__, "paritycells.histories")
        for name in METHODS + ("__eq__", "__len__"):
            self.assertIn(name, vars(History))


if __name__ == "__main__":
    unittest.main()
