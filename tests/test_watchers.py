"""Watchers: looks, what follows from them, reasons and doubts."""

import itertools
import unittest
from unittest import mock

from checks import CheckCase, subsets
from models import (
    SIZES, all_bits, bits_after, bits_of, board_of, chance_for, parity_of, some_cells, some_flip, some_history, sum_of,
    switch_entry,
)
from paritycells import watchers
from paritycells.boards import Board
from paritycells.errors import Known, NoCells, NoTime, TooMany, Unknown
from paritycells.flips import Flip, add_flip, turn_flip
from paritycells.histories import History
from paritycells.watchers import MOST_LOOKS, Watcher
from strange import NOT_CELLS, NOT_INTEGERS, NOT_LISTS, NOT_STAMPS, Thing

METHODS = ("look", "looks", "knows", "reason", "is_reason", "doubt", "is_doubt")
ANN, BOB = (5, "ann", 0), (7, "bob", 0)
# The stamps of some_history have the times 0, 3, 5, 7 and 10 ** 18.
TIMES = [0, 1, 2, 3, 4, 5, 6, 7, 8, 10 ** 18 - 1, 10 ** 18]
NOT_TIMES = NOT_INTEGERS + [-1, -5, 10 ** 18 + 1, 10 ** 30, (5, "ann", 0)]


def two_entries():
    """Return the history of the interface's examples."""
    history = History(Board(4, up=[1]))
    history.enter(ANN, add_flip(1, to=2))
    history.enter(BOB, add_flip(2, to=3))
    return history


def parity_from(model, bits, cells, time):
    """Return the parity at the time, if the states at the start are these."""
    return parity_of(bits_after(bits, model.standing(lambda stamp: stamp[0] <= time)), cells)


def watched(chance, size, entries, looks):
    """Return a watcher with its looks, and the model of its history."""
    history, model = some_history(chance, size, entries)
    watcher = Watcher(history)
    for index in range(looks):
        watcher.look(some_cells(chance, size), time=chance.choice(TIMES))
    return watcher, model


def some_watchers(*seed):
    """Return watchers of small histories, with their models."""
    chance = chance_for("watchers", *seed)
    plans = [(size, entries, looks) for size in (1, 2, 3, 4, 5) for entries in (0, 3, 9) for looks in (0, 1, 2, 4, 7)]
    return [watched(chance, *plan) for plan in plans]


def questions(chance, size, many=6):
    """Return some cells with a time."""
    return [(some_cells(chance, size), chance.choice(TIMES)) for index in range(many)]


def possible(watcher, model):
    """Return the states at the start on which all looks have the results that were told."""
    return [
        bits for bits in all_bits(len(model.bits))
        if all(parity_from(model, bits, cells, time) == result for time, cells, result in watcher.looks())
    ]


def columns(watcher, model):
    """Return, for each look, the parities that it would return on all start boards."""
    every = all_bits(len(model.bits))
    return [tuple(parity_from(model, bits, cells, time) for bits in every) for time, cells, result in watcher.looks()]


def adds_up(chosen, constant, wanted):
    """Return whether the columns and the constant add up to the wanted column."""
    return all((sum(column[at] for column in chosen) + constant) % 2 == bit for at, bit in enumerate(wanted))


def is_plain_reason(indexes, constant, every, wanted):
    """Return whether these looks, and no proper part of them with either constant, add up to the wanted column."""
    if not adds_up([every[index] for index in indexes], constant, wanted):
        return False
    parts = [part for part in subsets(indexes) if part != tuple(indexes)]
    return not any(adds_up([every[index] for index in part], bit, wanted) for part in parts for bit in (0, 1))


class Looks(CheckCase):

    def test_against_the_board_at_that_time(self):
        chance = chance_for("looks")
        for size in (1, 2, 3, 5, 8, 17, 40):
            history, model = some_history(chance, size, 12)
            watcher = Watcher(history)
            told = []
            for time in TIMES * 3:
                cells = some_cells(chance, size)
                chance.shuffle(cells)
                found = watcher.look(cells, time=time)
                self.assertEqual(found, parity_from(model, model.bits, cells, time))
                self.assertIs(found.__class__, int)
                told.append((time, tuple(sorted(cells)), found))
                self.assertEqual([watcher.looks(), len(watcher)], [told, len(told)])
            self.assertEqual({row[1].__class__ for row in watcher.looks()}, {tuple})

    def test_before_between_at_and_after_the_stamps(self):
        watcher = Watcher(two_entries())
        results = [[watcher.look([cell], time=time) for cell in range(4)] for time in (0, 4, 5, 6, 7, 10 ** 18)]
        self.assertEqual(results, [[1, 1, 0, 0]] * 2 + [[1, 1, 1, 0]] * 2 + [[1, 1, 1, 1]] * 2)

    def test_removed_entries(self):
        history = two_entries()
        history.remove(ANN)
        watcher = Watcher(history)
        self.assertEqual([watcher.look([cell], time=9) for cell in range(4)], [1, 1, 0, 0])

    def test_a_new_watcher_has_no_looks(self):
        watcher = Watcher(two_entries())
        self.assertEqual([len(watcher), watcher.looks()], [0, []])

    def test_the_same_look_again(self):
        watcher = Watcher(two_entries())
        self.assertEqual([watcher.look([3], time=9), watcher.look((3,), time=9)], [1, 1])
        self.assertEqual(watcher.looks(), [(9, (3,), 1)] * 2)

    def test_the_history_changed_afterwards(self):
        history = two_entries()
        watcher, other = Watcher(history), Watcher(history)
        history.remove(ANN)
        history.enter((6, "ann", 0), turn_flip(3))
        self.assertEqual(watcher.look([2, 3], time=9), 0)
        self.assertEqual(watcher.look([3], time=9), 1)
        self.assertEqual([len(other), len(watcher)], [0, 2])
        self.assertEqual(Watcher(history).look([2, 3], time=9), 1)
        self.assertEqual(watcher.doubt([1], time=0)[0], Board(4, up=[1]))

    def test_the_history_is_not_changed(self):
        history = two_entries()
        watcher = Watcher(history)
        watcher.look([3], time=5)
        watcher.doubt([1], time=5)
        self.assertEqual(history, two_entries())

    def test_two_watchers(self):
        one, other = Watcher(two_entries()), Watcher(two_entries())
        one.look([3], time=9)
        self.assertEqual([len(one), len(other), other.looks()], [1, 0, []])
        self.assertEqual([one.knows([3], time=9), other.knows([3], time=9)], [True, False])

    def test_sixty_looks_and_one_more(self):
        self.assertEqual(MOST_LOOKS, 60)
        self.assertIs(MOST_LOOKS.__class__, int)
        watcher = Watcher(two_entries())
        for index in range(60):
            watcher.look([index % 4], time=index)
        kept = watcher.looks()
        for cells, time in (([1], 5), ([], 0), ((3,), 59)):
            self.fails(TooMany, {"limit": 60}, watcher.look, cells, time=time)
        self.assertEqual([watcher.looks(), len(watcher)], [kept, 60])
        self.fails(NoCells, {"cells": [4]}, watcher.look, [4], time=5)
        self.fails(NoTime, {"time": -1}, watcher.look, [3], time=-1)
        self.assertTrue(watcher.knows([1, 2], time=5))

    def test_errors_for_any_value(self):
        watcher = Watcher(two_entries())
        watcher.look([3], time=9)
        calls = [watcher.look, watcher.knows, watcher.reason, watcher.doubt]
        calls += [lambda cells, time: watcher.is_reason(((), 0), cells, time=time)]
        calls += [lambda cells, time: watcher.is_doubt(None, cells, time=time)]
        for call in calls:
            for cells in NOT_CELLS + [[4], (1, 4), [1, 1], [True]]:
                for time in (5, -1, None):
                    self.refuses(NoCells, "cells", cells, call, cells, time=time)
            for time in NOT_TIMES:
                self.refuses(NoTime, "time", time, call, [3], time=time)
                self.refuses(NoTime, "time", time, call, [1], time=time)
        self.assertEqual(watcher.looks(), [(9, (3,), 1)])

    def test_arguments_do_not_change(self):
        watcher = Watcher(two_entries())
        cells = [3, 1]
        watcher.look(cells, time=5)
        self.assertEqual(cells, [3, 1])
        cells.append(2)
        self.assertEqual(watcher.looks(), [(5, (1, 3), 1)])

    def test_the_list_belongs_to_the_caller(self):
        watcher = Watcher(two_entries())
        watcher.look([3], time=9)
        found = watcher.looks()
        self.assertIs(found.__class__, list)
        found.clear()
        self.assertEqual([len(watcher), watcher.looks()], [1, [(9, (3,), 1)]])

    def test_arguments(self):
        self.takes(Watcher, "history")
        watcher = Watcher(history=two_entries())
        for call in (watcher.look, watcher.knows, watcher.reason, watcher.doubt):
            self.takes(call, "cells", "*", "time")
        for call in (watcher.is_reason, watcher.is_doubt):
            self.takes(call, "thing", "cells", "*", "time")
        self.takes(watcher.looks)
        self.assertEqual(watcher.look(time=9, cells=[3]), 1)
        self.assertIs(watcher.knows(time=9, cells=[3]), True)
        self.assertEqual(watcher.reason(time=9, cells=[3]), ((0,), 0))
        self.assertIs(watcher.is_reason(time=9, cells=[3], thing=((0,), 0)), True)
        self.assertEqual(watcher.doubt(time=9, cells=[1])[0], Board(4, up=[1]))
        self.assertIs(watcher.is_doubt(time=9, cells=[1], thing=None), False)
        with self.assertRaises(TypeError):
            watcher.look([3], 9)


class Knows(CheckCase):

    def test_against_all_start_boards(self):
        chance = chance_for("knows")
        answers = []
        for watcher, model in some_watchers("knows"):
            before = watcher.looks()
            left = possible(watcher, model)
            for cells, time in questions(chance, len(model.bits), 10):
                expected = len({parity_from(model, bits, cells, time) for bits in left}) == 1
                self.assertIs(watcher.knows(cells, time=time), expected)
                answers.append(expected)
            self.assertEqual(watcher.looks(), before)
        self.assertGreater(min(answers.count(True), answers.count(False)), 50)

    def test_cell_0_is_known(self):
        watcher = Watcher(two_entries())
        for cells, expected in (([], True), ([0], True), ([1], False), ([0, 1], False)):
            self.assertIs(watcher.knows(cells, time=0), expected)

    def test_one_look_at_every_time(self):
        watcher = Watcher(two_entries())
        watcher.look([3], time=9)
        for time in (0, 4, 5, 6):
            self.assertIs(watcher.knows([2, 3], time=max(time, 5)), True)
            self.assertIs(watcher.knows([3], time=time), False)
        self.assertIs(watcher.knows([1, 2, 3], time=4), True)

    def test_forty_cells(self):
        chance = chance_for("knows forty")
        history, model = some_history(chance, 40, 100)
        watcher = Watcher(history)
        for cell in range(40):
            self.assertIs(watcher.knows([cell], time=50), cell == 0)
        for cell in range(1, 40):
            watcher.look([cell], time=50)
            self.assertIs(watcher.knows(list(range(1, cell + 1)), time=50), True)
            self.assertIs(watcher.knows(list(range(cell, 40)), time=50), cell == 39)
        for time in (0, 3, 49, 99, 10 ** 18):
            cells = some_cells(chance, 40)
            self.assertIs(watcher.knows(cells, time=time), True)


class Reasons(CheckCase):

    def test_right_for_every_start_board_and_without_a_proper_part(self):
        chance = chance_for("reasons")
        seen = []
        for watcher, model in some_watchers("reasons"):
            every = columns(watcher, model)
            for cells, time in questions(chance, len(model.bits), 8):
                if not watcher.knows(cells, time=time):
                    self.fails(Unknown, {"cells": tuple(sorted(cells))}, watcher.reason, cells, time=time)
                    continue
                reason = watcher.reason(cells, time=time)
                self.is_formed(reason)
                wanted = [parity_from(model, bits, cells, time) for bits in all_bits(len(model.bits))]
                self.assertTrue(is_plain_reason(*reason, every, wanted))
                self.assertIs(watcher.is_reason(reason, cells, time=time), True)
                self.assertEqual(watcher.reason(cells, time=time), reason)
                seen.append(len(reason[0]))
        self.assertGreater(len([many for many in seen if many > 1]), 20)

    def is_formed(self, reason):
        """Expect a tuple of an ascending tuple of indexes and a constant, of the right kinds."""
        self.assertEqual([reason.__class__, len(reason), reason[0].__class__], [tuple, 2, tuple])
        self.assertEqual({index.__class__ for index in reason[0]} | {reason[1].__class__}, {int})
        self.assertEqual(list(reason[0]), sorted(set(reason[0])))

    def test_is_reason_against_all_pairs(self):
        chance = chance_for("is reason")
        found = 0
        for watcher, model in some_watchers("is reason"):
            every = columns(watcher, model)
            for cells, time in questions(chance, len(model.bits), 3):
                wanted = [parity_from(model, bits, cells, time) for bits in all_bits(len(model.bits))]
                for indexes, constant in itertools.product(subsets(range(len(watcher))), (0, 1)):
                    expected = is_plain_reason(indexes, constant, every, wanted)
                    self.assertIs(watcher.is_reason((indexes, constant), cells, time=time), expected)
                    found += expected
        self.assertGreater(found, 100)

    def test_the_same_parity_for_all_start_boards(self):
        watcher = Watcher(two_entries())
        watcher.look([], time=3)
        watcher.look([0], time=3)
        self.assertEqual(watcher.reason([], time=3), ((), 0))
        self.assertEqual(watcher.reason([0], time=9), ((), 1))
        for thing in (((0,), 0), ((1,), 1), ((0, 1), 1), ((), 1)):
            self.assertIs(watcher.is_reason(thing, [], time=3), False)

    def test_looks_that_say_the_same(self):
        watcher = Watcher(two_entries())
        for cells in ([3], [0, 3], [3], [1]):
            watcher.look(cells, time=9)
        for thing, expected in (
            (((0,), 0), True), (((1,), 1), True), (((2,), 0), True), (((1,), 0), False), (((0, 1, 2), 1), False),
            (((0, 1), 1), False), (((3,), 0), False), (((0, 3), 0), False),
        ):
            self.assertIs(watcher.is_reason(thing, [3], time=9), expected)

    def test_any_value(self):
        watcher = Watcher(two_entries())
        watcher.look([3], time=9)
        watcher.look([1], time=9)
        self.assertIs(watcher.is_reason(((0, 1), 0), [1, 3], time=9), True)
        wrong = NOT_LISTS + NOT_CELLS + NOT_STAMPS + NOT_INTEGERS + [
            [(0, 1), 0], ([0, 1], 0), ((0, True), 0), ((False, 1), 0), ((False, True), 0), ((0, 1), False), ((0, 1), 1),
            ((0, 1), True), ((1, 0), 0), ((0, 1, 1), 0), ((0, 0, 1), 0), ((0, 1, 2), 0), ((-1, 0), 0), ((0, 1), 0, 0),
            ((0, 1),), (0, (0, 1)), ((0, 1), None), ((0, 1), 2), ((0, 1), -2), ((0, 1), "0"), (("0", "1"), 0),
            ((0, 2), 0), ((-2, -1), 0), ((0, (1,)), 0), (((0, 1),), 0), ((0, [1]), 0), (range(2), 0), ({0, 1}, 0),
            ("01", 0), ((), 0), ((), 1), ((0,), 0), ((1,), 0), (None, 0), ((0, 1), [0]), ((0, 10 ** 30), 0), Thing(),
        ]
        for thing in wrong:
            with self.subTest(repr(thing)):
                self.assertIs(watcher.is_reason(thing, [1, 3], time=9), False)

    def test_a_constant_is_no_cell(self):
        watcher = Watcher(History(Board(4, up=[1])))
        watcher.look([2], time=0)
        for constant in (0, 1, 2, 3, -1, 4):
            self.assertIs(watcher.is_reason(((0,), constant), [1, 2], time=0), False)
            self.assertIs(watcher.is_reason(((0,), constant), [0, 2], time=0), constant == 1)

    def test_no_reason_where_nothing_is_known(self):
        watcher = Watcher(two_entries())
        for thing in (((), 0), ((), 1), ((0,), 0)):
            self.assertIs(watcher.is_reason(thing, [3], time=9), False)
        for cells in ([3, 1], (1, 3)):
            self.fails(Unknown, {"cells": (1, 3)}, watcher.reason, cells, time=9)

    def test_forty_cells(self):
        chance = chance_for("reasons forty")
        history, model = some_history(chance, 40, 60)
        watcher = Watcher(history)
        for index in range(60):
            watcher.look(some_cells(chance, 40), time=chance.randrange(100))
        for cells, time in [(some_cells(chance, 40), chance.randrange(120)) for index in range(20)]:
            indexes, constant = watcher.reason(cells, time=time)
            told = sum(watcher.looks()[index][2] for index in indexes) + constant
            self.assertEqual(told % 2, parity_from(model, model.bits, cells, time))
            self.assertLess(len(indexes), 40)
            self.assertIs(watcher.is_reason((indexes, constant), cells, time=time), True)
            self.assertIs(watcher.is_reason((indexes, 1 - constant), cells, time=time), False)
            self.assertIs(watcher.is_reason((indexes[1:], constant), cells, time=time), False)


class Doubts(CheckCase):

    def agrees(self, watcher, model, doubt, cells, time):
        """Expect the start board and another one on which all looks agree and the parity differs."""
        self.assertEqual([doubt.__class__, len(doubt)], [tuple, 2])
        one, other = bits_of(doubt[0]), bits_of(doubt[1])
        self.assertEqual(one, model.bits)
        for past_time, past_cells, result in watcher.looks():
            self.assertEqual(parity_from(model, other, past_cells, past_time), result)
        self.assertNotEqual(parity_from(model, one, cells, time), parity_from(model, other, cells, time))

    def test_two_start_boards_that_differ(self):
        chance = chance_for("doubts")
        seen = 0
        for watcher, model in some_watchers("doubts"):
            for cells, time in questions(chance, len(model.bits), 8):
                if watcher.knows(cells, time=time):
                    self.fails(Known, {"cells": tuple(sorted(cells))}, watcher.doubt, cells, time=time)
                    continue
                doubt = watcher.doubt(cells, time=time)
                self.agrees(watcher, model, doubt, cells, time)
                self.assertIs(watcher.is_doubt(doubt, cells, time=time), True)
                self.assertEqual(watcher.doubt(cells, time=time), doubt)
                seen += 1
        self.assertGreater(seen, 100)

    def test_is_doubt_against_all_boards(self):
        chance = chance_for("is doubt")
        found = 0
        for watcher, model in some_watchers("is doubt"):
            left = possible(watcher, model)
            for cells, time in questions(chance, len(model.bits), 3):
                parity = parity_from(model, model.bits, cells, time)
                for one, other in itertools.product(all_bits(len(model.bits)), repeat=2):
                    differs = other in left and parity_from(model, other, cells, time) != parity
                    thing = (board_of(one), board_of(other))
                    self.assertIs(watcher.is_doubt(thing, cells, time=time), one == model.bits and differs)
                    found += one == model.bits and differs
        self.assertGreater(found, 100)

    def test_any_value(self):
        watcher = Watcher(two_entries())
        watcher.look([3], time=9)
        start, other = Board(4, up=[1]), Board(4, up=[2])
        self.assertIs(watcher.is_doubt((start, other), [1], time=5), True)
        wrong = NOT_LISTS + NOT_CELLS + NOT_STAMPS + NOT_INTEGERS + [
            [start, other], (start,), (start, other, other), (start, other, None), (other, start), (start, start),
            (other, other), (start, Board(5, up=[2])), (Board(5, up=[1]), other), (start, Board(3, up=[2])),
            (Board(3, up=[1]), Board(3, up=[2])), (start, None), (None, other), ("1100", "1010"), (start, "1010"),
            (start, (0, 2)), (start, [1, 0, 1, 0]), (start, True), (start, Flip([1], [2])), ((start, other),), start,
            (start, Board(4, up=[2, 3])), (start, Thing()), (start, Board), (start, Board(1)),
            (start, Board(40, up=[2])), (mock.ANY, other), (start, mock.ANY),
        ]
        for thing in wrong:
            with self.subTest(repr(thing)):
                self.assertIs(watcher.is_doubt(thing, [1], time=5), False)

    def test_no_doubt_where_all_is_known(self):
        watcher = Watcher(two_entries())
        for cell in (1, 2, 3):
            watcher.look([cell], time=6)
        for other in all_bits(4):
            self.assertIs(watcher.is_doubt((Board(4, up=[1]), board_of(other)), [3], time=9), False)
        for cells in ([3, 1], (1, 3)):
            self.fails(Known, {"cells": (1, 3)}, watcher.doubt, cells, time=9)

    def test_known_by_cell_0_alone(self):
        watcher = Watcher(History(Board(1)))
        self.fails(Known, {"cells": (0,)}, watcher.doubt, [0], time=0)
        self.fails(Known, {"cells": ()}, watcher.doubt, (), time=0)
        self.assertIs(watcher.is_doubt((Board(1), Board(1)), [0], time=0), False)

    def test_each_size(self):
        for size in SIZES:
            chance = chance_for("doubts of a size", size)
            watcher, model = watched(chance, size, 12, size // 2)
            for cells, time in questions(chance, size):
                if watcher.knows(cells, time=time):
                    self.fails(Known, {"cells": tuple(sorted(cells))}, watcher.doubt, cells, time=time)
                else:
                    self.agrees(watcher, model, watcher.doubt(cells, time=time), cells, time)

    def test_forty_cells_and_sixty_looks(self):
        chance = chance_for("doubts forty")
        history, model = some_history(chance, 40, 60)
        watcher = Watcher(history)
        for index in range(60):
            # Sums of thirty cells' looks leave the other cells in doubt.
            watcher.look([cell for cell in range(31) if chance.random() < 0.5], time=0)
        for cell in range(31, 40):
            self.agrees(watcher, model, watcher.doubt([3, cell], time=0), [3, cell], 0)

    def test_the_boards_are_not_those_of_the_history(self):
        history = two_entries()
        watcher = Watcher(history)
        switch_entry(history, ANN)
        one, other = watcher.doubt([3], time=9)
        self.assertEqual(one, Board(4, up=[1]))
        self.assertNotEqual(one, other)


class KnownOrInDoubt(CheckCase):

    def test_always_exactly_one(self):
        chance = chance_for("exactly one")
        for watcher, model in some_watchers("one"):
            for cells, time in questions(chance, len(model.bits), 5):
                outcomes = []
                for call, error in ((watcher.reason, Unknown), (watcher.doubt, Known)):
                    try:
                        call(cells, time=time)
                        outcomes.append(True)
                    except error:
                        outcomes.append(False)
                self.assertEqual(outcomes.count(True), 1)
                self.assertIs(watcher.knows(cells, time=time), outcomes[0])

    def test_a_look_makes_known(self):
        chance = chance_for("makes known")
        for watcher, model in some_watchers("makes"):
            for cells, time in questions(chance, len(model.bits), 3):
                result = watcher.look(cells, time=time)
                self.assertIs(watcher.knows(cells, time=time), True)
                indexes, constant = watcher.reason(cells, time=time)
                told = [watcher.looks()[index][2] for index in indexes]
                self.assertEqual((sum(told) + constant) % 2, result)

    def test_sums_of_looks_are_known(self):
        chance = chance_for("sums of looks")
        history, model = some_history(chance, 9, 10)
        watcher = Watcher(history)
        asked = [some_cells(chance, 9) for index in range(4)]
        for cells in asked:
            watcher.look(cells, time=4)
        for chosen in subsets(asked):
            self.assertIs(watcher.knows(sorted(sum_of(chosen)), time=4), True)
        flip = some_flip(chance, 9)
        history.enter((4, "zz", 9), flip)
        self.assertEqual(len(watcher), 4)


class Places(CheckCase):

    def test_defined_in_this_file_and_class(self):
        self.assertEqual(watchers.Watcher.__module__, "paritycells.watchers")
        for name in METHODS + ("__len__",):
            self.assertIn(name, vars(Watcher))


if __name__ == "__main__":
    unittest.main()
