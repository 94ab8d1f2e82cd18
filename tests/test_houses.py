"""Houses: acting, removing and restoring, receiving, hearing and folding."""

import itertools
import unittest
from unittest import mock

from checks import CheckCase
from house_models import HANDS, HouseModel, new_house, one_step, some_entries, some_house
from models import SIZES, all_bits, bits_after, bits_of, board_of, chance_for, rank_of_rows, some_flip
from paritycells import houses
from paritycells.boards import Board
from paritycells.errors import (
    Behind, Clash, Folded, NoEntries, NoEntry, NoHand, NoHands, NoTime, NotHeard, NotOwn, Removed, Standing, TooMany,
    TooWide,
)
from paritycells.flips import Flip, add_flip, swap_flip, turn_flip
from paritycells.histories import History
from paritycells.houses import MOST_ENTRIES, House
from paritycells.tables import table_of
from strange import NOT_CELLS, NOT_INTEGERS, NOT_LISTS, NOT_STAMPS, Thing, knotted

METHODS = (
    "hands", "start", "base", "board", "horizon", "entries", "act", "remove", "restore", "receive", "hear", "heard",
    "fold", "folded", "copied",
)
ANN, BOB = (5, "ann", 0), (7, "bob", 0)
FLIP, LATER = add_flip(1, to=2), add_flip(2, to=3)
UNKNOWN = [(5, "ann", 1), (5, "bob", 0), (6, "ann", 0), (0, "a", 0), (10 ** 18, "zzzzzzzz", 10 ** 18)]
NOT_TIMES = NOT_INTEGERS + [-1, -5, 10 ** 18 + 1, 10 ** 30, (5, "ann", 0)]
NOT_HANDS = NOT_INTEGERS + NOT_LISTS + ["Ann", "an", "anne", "eve", "ann ", ("ann",), ["ann"], 5, mock.ANY]


def pair():
    """Return a house with an entry of each of its two hands."""
    house = House(["ann", "bob"], Board(4, up=[1]))
    house.act("ann", FLIP, time=5)
    house.act("bob", LATER, time=7)
    return house


def folded_pair():
    """Return such a house that folded up to time 5."""
    house = pair()
    house.hear("ann", time=6)
    house.hear("bob", time=5)
    house.fold(time=5)
    return house


def full_house():
    """Return a house with 300 entries."""
    house = House(["ann", "bob"], Board(4, up=[1]))
    house.receive([((number % 7, "ann", number), FLIP, True, 0) for number in range(300)])
    return house


def state_of(house):
    """Return all that a house tells of itself, and which numbers it would give."""
    heard = [house.heard(hand) for hand in house.hands()]
    twin = house.copied()
    numbers = []
    if len(twin) < 290:
        numbers = [twin.act(hand, Flip([], []), time=10 ** 18)[2] for hand in twin.hands()]
    told = [str(house.start()), str(house.base()), str(house.board()), house.horizon(), len(house), house.entries()]
    return told + [house.hands(), house.folded(), heard, numbers]


class HouseCase(CheckCase):
    """Compares a house with its model, and with itself before a call that raises."""

    def agrees(self, house, model):
        """Expect all that the model holds."""
        self.assertEqual(house.hands(), model.hands)
        self.assertEqual(bits_of(house.start()), model.bits)
        self.assertEqual(bits_of(house.base()), model.base())
        self.assertEqual(bits_of(house.board()), model.now())
        self.assertEqual([house.horizon(), len(house)], [model.horizon, len(model.rows)])
        self.assertEqual(house.entries(), model.entries())
        self.assertEqual([house.heard(hand) for hand in model.hands], [model.heard[hand] for hand in model.hands])

    def keeps(self, house, error, fields, call, *values, **named):
        """Expect an error with these fields, and no change of the house."""
        before, twin = state_of(house), house.copied()
        self.fails(error, fields, call, *values, **named)
        self.assertEqual(state_of(house), before)
        self.assertTrue(house == twin)


class Made(HouseCase):

    def test_hands(self):
        for many in range(1, 7):
            names = ["a", "zzzzzzzz", "bob", "one", "cy", "ann"][:many]
            for hands in (names, tuple(names), names[::-1]):
                house = House(hands, Board(4, up=[1]))
                self.assertEqual(house.hands(), list(hands))
                self.assertIs(house.hands().__class__, list)

    def test_a_new_house(self):
        for size in SIZES:
            house, model = new_house(chance_for("new", size), size)
            self.agrees(house, model)
            self.assertEqual([house.horizon(), house.entries(), house.folded()], [-1, [], []])
            self.assertEqual([house.heard(hand) for hand in HANDS], [-1, -1, -1])

    def test_no_hands(self):
        seven = ["a", "b", "c", "d", "e", "f", "g"]
        wrong = NOT_LISTS + NOT_CELLS + NOT_STAMPS + [
            [], (), seven, tuple(seven), ["ann", "ann"], ["ann", "bob", "ann"], ["Ann"], [""], ["abcdefghi"], ["an n"],
            ["ann", None], ["ann", True], ["ann", 1], [b"ann"], [["ann"]], [("ann",)], "ann", {"ann": 1}, {"ann"},
            ["ann", "bob\n"], ["ann", {}], ["ann", ["bob"]], knotted(), ["a"] * 7,
        ]
        for value in wrong:
            # One of the lists without cells is a list of one name.
            if value != ["a"]:
                with self.subTest(repr(value)):
                    self.refuses(NoHands, "value", value, House, value, Board(4))

    def test_later_changes_of_the_list(self):
        hands = ["ann", "bob"]
        house = House(hands, Board(4))
        hands.append("cy")
        hands[0] = "eve"
        self.assertEqual(house.hands(), ["ann", "bob"])
        house.hands().clear()
        self.assertEqual(house.hands(), ["ann", "bob"])
        self.assertEqual(hands, ["eve", "bob", "cy"])

    def test_most_entries(self):
        self.assertEqual(MOST_ENTRIES, 300)
        self.assertIs(MOST_ENTRIES.__class__, int)

    def test_no_shared_state(self):
        one, other = House(["ann"], Board(4)), House(["ann"], Board(4))
        one.act("ann", turn_flip(1), time=5)
        one.hear("ann", time=5)
        self.assertEqual([len(other), other.heard("ann"), str(other.board())], [0, -1, "1000"])
        self.assertEqual(other.act("ann", turn_flip(1), time=5), (5, "ann", 0))

    def test_arguments(self):
        self.takes(House, "hands", "board")
        self.assertEqual(House(board=Board(3), hands=["ann"]).start(), Board(3))
        house = pair()
        for call in (house.hands, house.start, house.base, house.board, house.horizon, house.entries, house.folded):
            self.takes(call)
            self.assertEqual(call(), call())
        self.takes(house.copied)
        self.takes(house.act, "hand", "flip", "*", "time")
        self.takes(house.remove, "hand", "stamp")
        self.takes(house.restore, "hand", "stamp")
        self.takes(house.receive, "entries")
        self.takes(house.hear, "hand", "*", "time")
        self.takes(house.heard, "hand")
        self.takes(house.fold, "*", "time")

    def test_by_name(self):
        house = House(["ann"], Board(4, up=[1]))
        self.assertEqual(house.act(time=5, flip=FLIP, hand="ann"), ANN)
        self.assertIsNone(house.remove(stamp=ANN, hand="ann"))
        self.assertIsNone(house.restore(stamp=ANN, hand="ann"))
        self.assertEqual(house.receive(entries=[((5, "ann", 7), FLIP, True, 0)]), 1)
        self.assertIsNone(house.hear(time=5, hand="ann"))
        self.assertEqual(house.heard(hand="ann"), 5)
        for call, values in ((house.act, ("ann", FLIP, 5)), (house.hear, ("ann", 5)), (house.fold, (5,))):
            with self.assertRaises(TypeError):
                call(*values)
        self.assertIsNone(house.fold(time=5))


class Steps(HouseCase):

    def test_against_the_model(self):
        for size in (1, 2, 3, 5, 11, 40):
            for run in range(6 if size < 40 else 2):
                chance = chance_for("steps", size, run)
                house, model = new_house(chance, size, HANDS[:1 + run % 3])
                for index in range(45):
                    found, expected = one_step(chance, house, model)
                    self.assertEqual(found, expected)
                    self.agrees(house, model)

    def test_the_folded_sequence_against_the_model(self):
        folds = 0
        for size in (1, 2, 3, 4, 7, 40):
            for run in range(4):
                house, model = some_house(chance_for("folded", size, run), size, 40)
                folds += house.horizon() >= 0
                self.assertEqual(table_of(size, house.folded()), table_of(size, model.done))
        self.assertGreater(folds, 15)


class Acts(HouseCase):

    def test_the_stamp_and_the_entry(self):
        house = House(["ann", "bob"], Board(4, up=[1]))
        stamp = house.act("ann", FLIP, time=5)
        self.assertEqual([stamp, stamp.__class__], [ANN, tuple])
        self.assertEqual(house.entries(), [(ANN, FLIP, True, 0)])
        self.assertEqual([str(house.start()), str(house.base()), str(house.board())], ["1100", "1100", "1110"])

    def test_numbers_count_for_each_hand(self):
        house = House(["ann", "bob"], Board(4))
        stamps = [house.act(hand, FLIP, time=time) for time in (5, 2, 5) for hand in ("ann", "bob")]
        numbers = [stamp[2] for stamp in stamps]
        self.assertEqual(numbers, [0, 0, 1, 1, 2, 2])
        self.assertEqual(stamps[2], (2, "ann", 1))

    def test_the_least_number_between_received_ones(self):
        house = House(["ann", "bob"], Board(4))
        house.receive([((9, "ann", number), FLIP, True, 0) for number in (0, 2, 3, 10 ** 18)])
        house.receive([((9, "bob", 1), FLIP, False, 1)])
        self.assertEqual([house.act("ann", FLIP, time=time)[2] for time in (9, 1, 9)], [1, 4, 5])
        self.assertEqual([house.act("bob", FLIP, time=time)[2] for time in (9, 1, 9)], [0, 2, 3])

    def test_numbers_of_removed_entries_are_used(self):
        house = pair()
        house.remove("ann", ANN)
        self.assertEqual(house.act("ann", FLIP, time=5), (5, "ann", 1))

    def test_numbers_of_folded_entries_are_used(self):
        house = folded_pair()
        self.assertEqual(house.act("ann", FLIP, time=6), (6, "ann", 1))
        self.assertEqual(house.act("bob", FLIP, time=6), (6, "bob", 1))
        house.receive([((8, "ann", 2), FLIP, True, 0)])
        house.hear("ann", time=9)
        house.hear("bob", time=9)
        house.fold(time=9)
        self.assertEqual(house.act("ann", FLIP, time=10), (10, "ann", 3))
        self.assertEqual(house.act("bob", FLIP, time=10), (10, "bob", 2))

    def test_numbers_of_refused_entries_are_free(self):
        house = House(["ann"], Board(4))
        entries = [((5, "ann", 0), FLIP, True, 0), None]
        self.fails(NoEntries, {"index": 1}, house.receive, entries)
        self.assertEqual(house.act("ann", FLIP, time=5), ANN)

    def test_after_a_copy(self):
        house = folded_pair()
        twin = house.copied()
        self.assertEqual([twin.act("ann", FLIP, time=6), house.act("ann", FLIP, time=6)], [(6, "ann", 1)] * 2)

    def test_errors_in_order(self):
        house = folded_pair()
        wide = turn_flip(4)
        for hand in NOT_HANDS:
            for flip, time in ((FLIP, 9), (wide, None), (wide, 5), (FLIP, 5)):
                self.refuses(NoHand, "hand", hand, house.act, hand, flip, time=time)
        for time in (9, 5, -1, None):
            self.keeps(house, TooWide, {"needed": 5}, house.act, "ann", wide, time=time)
        for time in NOT_TIMES:
            self.refuses(NoTime, "time", time, house.act, "ann", FLIP, time=time)
        for time in (0, 4, 5):
            self.keeps(house, Behind, {"time": time}, house.act, "ann", FLIP, time=time)
        self.assertEqual(house.act("ann", FLIP, time=6), (6, "ann", 1))

    def test_too_wide_for_each_size(self):
        for size in (1, 2, 39):
            house = House(["ann"], Board(size))
            for flip in (turn_flip(size), Flip([size], []), Flip([], [size])):
                self.keeps(house, TooWide, {"needed": size + 1}, house.act, "ann", flip, time=5)

    def test_300_entries_and_one_more(self):
        house = full_house()
        self.keeps(house, TooMany, {"limit": 300}, house.act, "ann", FLIP, time=9)
        self.keeps(house, TooMany, {"limit": 300}, house.act, "bob", FLIP, time=0)
        self.refuses(NoTime, "time", -1, house.act, "bob", FLIP, time=-1)
        house.hear("ann", time=0)
        house.hear("bob", time=0)
        house.fold(time=0)
        self.keeps(house, Behind, {"time": 0}, house.act, "ann", FLIP, time=0)
        self.assertEqual(len(house), 300 - 43)
        self.assertEqual(house.act("ann", FLIP, time=9), (9, "ann", 300))

    def test_behind_ahead_of_too_many(self):
        house = folded_pair()
        house.receive([((9, "ann", number), FLIP, True, 0) for number in range(299)])
        self.keeps(house, Behind, {"time": 5}, house.act, "ann", FLIP, time=5)
        self.keeps(house, TooMany, {"limit": 300}, house.act, "ann", FLIP, time=6)


class Switches(HouseCase):

    def test_own_entries(self):
        house = pair()
        self.assertIsNone(house.remove("ann", ANN))
        self.assertEqual(house.entries(), [(ANN, FLIP, False, 1), (BOB, LATER, True, 0)])
        self.assertEqual(str(house.board()), "1100")
        self.assertIsNone(house.restore("ann", (5, "ann", 0)))
        self.assertEqual(house.entries(), [(ANN, FLIP, True, 2), (BOB, LATER, True, 0)])
        self.assertEqual(str(house.board()), "1111")

    def test_received_entries_of_a_hand(self):
        house = pair()
        house.receive([((6, "bob", 4), FLIP, False, 7)])
        house.restore("bob", (6, "bob", 4))
        self.assertEqual(house.entries()[1], ((6, "bob", 4), FLIP, True, 8))
        house.remove("bob", (6, "bob", 4))
        self.assertEqual(house.entries()[1], ((6, "bob", 4), FLIP, False, 9))

    def test_errors_in_order(self):
        house = pair()
        house.act("ann", FLIP, time=1)
        for call in (house.remove, house.restore):
            for hand in NOT_HANDS:
                for stamp in (ANN, BOB, None, (5, "ann", False)):
                    self.refuses(NoHand, "hand", hand, call, hand, stamp)
            for stamp in NOT_STAMPS + UNKNOWN:
                self.refuses(NoEntry, "stamp", stamp, call, "ann", stamp)
                self.refuses(NoEntry, "stamp", stamp, call, "bob", stamp)
            self.keeps(house, NotOwn, {"stamp": ANN}, call, "bob", (5, "ann", 0))
            self.keeps(house, NotOwn, {"stamp": BOB}, call, "ann", BOB)
        self.keeps(house, Standing, {"stamp": ANN}, house.restore, "ann", ANN)
        house.remove("ann", ANN)
        self.keeps(house, Removed, {"stamp": ANN}, house.remove, "ann", ANN)
        self.keeps(house, NotOwn, {"stamp": ANN}, house.remove, "bob", ANN)
        self.keeps(house, NotOwn, {"stamp": ANN}, house.restore, "bob", ANN)

    def test_folded_entries(self):
        house = folded_pair()
        for call in (house.remove, house.restore):
            self.keeps(house, NoEntry, {"stamp": ANN}, call, "ann", ANN)
            self.keeps(house, NoEntry, {"stamp": ANN}, call, "bob", ANN)


class Receives(HouseCase):

    def test_counts_of_changes(self):
        for known, told in itertools.product(range(5), repeat=2):
            house = House(["ann", "bob"], Board(4, up=[1]))
            house.receive([(ANN, FLIP, known % 2 == 0, known)])
            found = house.receive([(ANN, FLIP, told % 2 == 0, told)])
            self.assertEqual(found, 1 if told > known else 0)
            most = max(known, told)
            self.assertEqual(house.entries(), [(ANN, FLIP, most % 2 == 0, most)])

    def test_great_counts(self):
        house = House(["ann"], Board(4, up=[1]))
        self.assertEqual(house.receive([(ANN, FLIP, True, 10 ** 58)]), 1)
        self.assertEqual(house.receive([(ANN, FLIP, False, 10 ** 58 + 1), (ANN, FLIP, True, 10 ** 58)]), 1)
        self.assertEqual(house.entries(), [(ANN, FLIP, False, 10 ** 58 + 1)])
        house.restore("ann", ANN)
        self.assertEqual(house.entries(), [(ANN, FLIP, True, 10 ** 58 + 2)])

    def test_the_same_stamp_twice(self):
        house = House(["ann"], Board(4, up=[1]))
        entries = [(ANN, FLIP, True, 2), (ANN, FLIP, False, 1), (ANN, FLIP, False, 3), (ANN, FLIP, False, 3)]
        self.assertEqual(house.receive(entries), 2)
        self.assertEqual(house.entries(), [(ANN, FLIP, False, 3)])
        self.assertEqual(house.receive(tuple(entries)), 0)

    def test_an_empty_list(self):
        house = pair()
        before = state_of(house)
        self.assertEqual([house.receive([]), house.receive(())], [0, 0])
        self.assertEqual(state_of(house), before)

    def test_any_order(self):
        chance = chance_for("any order")
        for size in (2, 4, 40):
            house, model = new_house(chance, size)
            entries = some_entries(chance, model, 25)
            house.receive(entries)
            for index in range(5):
                chance.shuffle(entries)
                other = House(HANDS, house.start())
                cut = chance.randrange(26)
                total = other.receive(entries[:cut]) + other.receive(entries[cut:])
                self.assertGreaterEqual(total, len(other))
                self.assertTrue(other == house)
                self.assertEqual(other.receive(house.entries()), 0)

    def test_from_house_to_house(self):
        one, other = pair(), House(["ann", "bob"], Board(4, up=[1]))
        self.assertEqual(other.receive(one.entries()), 2)
        self.assertTrue(one == other)
        one.remove("ann", ANN)
        self.assertFalse(one == other)
        self.assertEqual([one.receive(other.entries()), other.receive(one.entries())], [0, 1])
        self.assertTrue(one == other)

    def test_not_a_list(self):
        house = pair()
        for entries in NOT_LISTS + [{ANN: FLIP}, {ANN}, "entries", house, FLIP]:
            with self.subTest(repr(entries)):
                self.keeps(house, NoEntries, {"index": -1}, house.receive, entries)

    def test_not_an_entry_tuple(self):
        house = pair()
        good = ((9, "ann", 9), FLIP, True, 0)
        wrong = NOT_LISTS + NOT_CELLS + NOT_STAMPS + [
            list(good), good[:3], good + (0,), (good,), (list(ANN), FLIP, True, 0), (ANN, FLIP, 1, 0),
            (ANN, FLIP, 0, 1), (ANN, [FLIP], True, 0),
            (ANN, FLIP, True, False), (ANN, FLIP, False, True), (ANN, FLIP, True, 1), (ANN, FLIP, False, 0),
            (ANN, FLIP, False, 2), (ANN, FLIP, True, -2), (ANN, FLIP, False, -1), (ANN, FLIP, None, 0),
            (ANN, FLIP, True, None), (ANN, FLIP, True, "0"), (ANN, None, True, 0), (ANN, "1>2", True, 0),
            (ANN, ((1,), (2,)), True, 0), (ANN, Board(4), True, 0), (ANN, Flip, True, 0), (ANN, Thing(), True, 0),
            (FLIP, ANN, True, 0), (ANN, FLIP, 0, True), ((5, "ann", True), FLIP, True, 0), (ANN, FLIP, True, [0]),
            ((5, "Ann", 0), FLIP, True, 0), ((-1, "ann", 0), FLIP, True, 0), (ANN, FLIP, "True", 0),
            ((True, "ann", 0), FLIP, True, 0), ((10 ** 18 + 1, "ann", 0), FLIP, True, 0), ("ann", FLIP, True, 0),
        ]
        for entry in wrong:
            with self.subTest(repr(entry)):
                self.keeps(house, NoEntries, {"index": 0}, house.receive, [entry])
                self.keeps(house, NoEntries, {"index": 1}, house.receive, [good, entry])
        for stamp in NOT_STAMPS:
            self.fails(NoEntries, {"index": 2}, house.receive, (good, good, (stamp, FLIP, True, 0), None))
        self.assertEqual(len(house), 2)

    def test_errors_of_an_item_in_order(self):
        house = folded_pair()
        wide = turn_flip(4)
        self.keeps(house, TooWide, {"needed": 5}, house.receive, [((5, "eve", 0), wide, True, 0)])
        self.keeps(house, NoHand, {"hand": "eve"}, house.receive, [((5, "eve", 0), FLIP, True, 0)])
        self.keeps(house, NoHand, {"hand": "one"}, house.receive, [((9, "one", 0), FLIP, True, 0)])
        for time in (0, 4, 5):
            for number in (0, 9):
                stamp = (time, "ann", number)
                self.keeps(house, Folded, {"stamp": stamp}, house.receive, [(stamp, FLIP, True, 0)])
        for changes in (0, 1, 2):
            entry = (BOB, FLIP, changes % 2 == 0, changes)
            self.keeps(house, Clash, {"stamp": BOB}, house.receive, [entry])
        self.assertEqual(house.receive([((6, "ann", 0), FLIP, True, 0)]), 1)

    def test_the_first_invalid_item_decides(self):
        house = folded_pair()
        good, none = ((9, "ann", 9), FLIP, True, 0), None
        wide, hand = ((9, "ann", 8), turn_flip(4), True, 0), ((9, "eve", 8), FLIP, True, 0)
        folded, clash = (ANN, FLIP, True, 0), (BOB, FLIP, True, 0)
        expected = {
            "none": (NoEntries, {"index": 1}), "wide": (TooWide, {"needed": 5}), "hand": (NoHand, {"hand": "eve"}),
            "folded": (Folded, {"stamp": ANN}), "clash": (Clash, {"stamp": BOB}),
        }
        items = {"none": none, "wide": wide, "hand": hand, "folded": folded, "clash": clash}
        for first, second in itertools.permutations(items, 2):
            self.keeps(house, *expected[first], house.receive, [good, items[first], items[second]])
        self.assertEqual(house.receive([good]), 1)

    def test_a_clash_within_the_list(self):
        house = House(["ann"], Board(4))
        entries = [(ANN, FLIP, True, 0), (ANN, LATER, True, 2)]
        self.keeps(house, Clash, {"stamp": ANN}, house.receive, entries)
        self.assertEqual(house.entries(), [])
        self.assertEqual(house.receive(entries[1:]), 1)

    def test_an_equal_flip_is_no_clash(self):
        house = pair()
        self.assertEqual(house.receive([(ANN, Flip((1,), (2,)), False, 1)]), 1)
        self.assertEqual(house.receive([(ANN, Flip([1], [2]), True, 0)]), 0)

    def test_a_time_that_was_heard(self):
        house = pair()
        house.hear("ann", time=10 ** 18)
        house.hear("bob", time=10 ** 18)
        self.assertEqual(house.receive([((3, "ann", 7), FLIP, True, 0)]), 1)
        house.fold(time=3)
        self.keeps(house, Folded, {"stamp": (3, "bob", 7)}, house.receive, [((3, "bob", 7), FLIP, True, 0)])
        self.assertEqual(house.receive([((4, "bob", 7), FLIP, True, 0)]), 1)

    def test_300_entries_and_one_more(self):
        house = full_house()
        new = ((9, "bob", 0), FLIP, True, 0)
        self.keeps(house, TooMany, {"limit": 300}, house.receive, [new])
        known = ((0, "ann", 0), FLIP, False, 1)
        self.keeps(house, TooMany, {"limit": 300}, house.receive, [known, new])
        self.keeps(house, Clash, {"stamp": (0, "ann", 0)}, house.receive, [((0, "ann", 0), LATER, True, 0), new])
        self.keeps(house, TooMany, {"limit": 300}, house.receive, [new, ((0, "ann", 0), LATER, True, 0)])
        self.assertEqual(house.receive([known]), 1)
        self.assertEqual(house.entries()[0], known)

    def test_the_301st_within_the_list(self):
        house = House(["ann"], Board(4))
        entries = [((9, "ann", number), FLIP, True, 0) for number in range(301)]
        self.keeps(house, TooMany, {"limit": 300}, house.receive, entries)
        self.assertEqual(len(house), 0)
        self.assertEqual(house.receive(entries[:300] + entries[:50]), 300)
        self.assertEqual(len(house), 300)

    def test_arguments_do_not_change(self):
        house = House(["ann"], Board(4))
        entries = [(ANN, FLIP, True, 0)]
        house.receive(entries)
        self.assertEqual(entries, [(ANN, FLIP, True, 0)])
        entries.clear()
        self.assertEqual(len(house), 1)

    def test_the_list_of_entries_belongs_to_the_caller(self):
        house = pair()
        found = house.entries()
        self.assertEqual([found.__class__, found[0].__class__, found[0][2].__class__], [list, tuple, bool])
        found.clear()
        self.assertEqual(len(house.entries()), 2)


class Hears(HouseCase):

    def test_the_greatest_time(self):
        house = pair()
        for time, expected in ((0, 0), (6, 6), (3, 6), (6, 6), (10 ** 18, 10 ** 18), (7, 10 ** 18)):
            self.assertIsNone(house.hear("ann", time=time))
            self.assertEqual([house.heard("ann"), house.heard("bob")], [expected, -1])

    def test_errors_in_order(self):
        house = pair()
        house.hear("ann", time=6)
        for hand in NOT_HANDS:
            self.refuses(NoHand, "hand", hand, house.heard, hand)
            for time in (9, -1, None):
                self.refuses(NoHand, "hand", hand, house.hear, hand, time=time)
        for time in NOT_TIMES:
            self.refuses(NoTime, "time", time, house.hear, "ann", time=time)
        self.assertEqual([house.heard("ann"), house.heard("bob")], [6, -1])

    def test_acting_and_receiving_are_not_hearing(self):
        house = pair()
        house.receive([((9, "bob", 5), FLIP, True, 0)])
        self.assertEqual([house.heard("ann"), house.heard("bob")], [-1, -1])


class Folds(HouseCase):

    def test_the_example(self):
        house = folded_pair()
        self.assertEqual([str(house.start()), str(house.base()), str(house.board())], ["1100", "1110", "1111"])
        self.assertEqual([house.horizon(), house.entries(), house.folded()], [5, [(BOB, LATER, True, 0)], [FLIP]])
        self.assertEqual([house.heard("ann"), house.heard("bob")], [6, 5])

    def test_errors_in_order(self):
        house = folded_pair()
        for time in NOT_TIMES:
            self.refuses(NoTime, "time", time, house.fold, time=time)
        for time in (0, 4, 5):
            self.keeps(house, Behind, {"time": time}, house.fold, time=time)
        self.keeps(house, NotHeard, {"hand": "bob"}, house.fold, time=6)
        self.keeps(house, NotHeard, {"hand": "ann"}, house.fold, time=7)
        house.hear("bob", time=7)
        self.keeps(house, NotHeard, {"hand": "ann"}, house.fold, time=7)
        house.hear("ann", time=7)
        self.keeps(house, NotHeard, {"hand": "ann"}, house.fold, time=8)
        self.assertIsNone(house.fold(time=7))
        self.keeps(house, Behind, {"time": 7}, house.fold, time=7)

    def test_the_first_hand_in_order(self):
        for hands in itertools.permutations(["ann", "bob", "cy"]):
            for heard in (hands[:0], hands[:1], hands[:2], hands[1:], hands[2:]):
                house = House(list(hands), Board(3))
                for hand in heard:
                    house.hear(hand, time=5)
                first = [hand for hand in hands if hand not in heard][0]
                self.keeps(house, NotHeard, {"hand": first}, house.fold, time=5)

    def test_entries_with_that_time_and_lesser_ones_are_dropped(self):
        house = House(["ann", "bob"], Board(4, up=[1]))
        for time in (0, 3, 4, 5, 6, 9):
            house.act("ann", turn_flip(1), time=time)
            house.act("bob", turn_flip(2), time=time)
        house.remove("bob", (4, "bob", 2))
        house.remove("bob", (6, "bob", 4))
        for hand in ("ann", "bob"):
            house.hear(hand, time=9)
        house.fold(time=5)
        self.assertEqual([entry[0][0] for entry in house.entries()], [6, 6, 9, 9])
        self.assertEqual([entry[2:] for entry in house.entries()], [(True, 0), (False, 1), (True, 0), (True, 0)])
        # Four turns of cell 1, and three of cell 2.
        self.assertEqual(str(house.base()), "1110")
        house.fold(time=9)
        self.assertEqual([house.entries(), len(house)], [[], 0])
        self.assertEqual([str(house.base()), str(house.board())], ["1100", "1100"])

    def test_the_board_does_not_change(self):
        for size in (1, 3, 6, 40):
            for run in range(4):
                house, model = some_house(chance_for("fold board", size, run), size, 30)
                before, time = house.board(), house.horizon() + 3
                for hand in HANDS:
                    house.hear(hand, time=time)
                house.fold(time=time)
                self.assertEqual(house.board(), before)
                self.assertEqual([house.horizon(), house.start()], [time, board_of(model.bits)])

    def test_a_shortest_sequence_for_every_start_board(self):
        for size in (1, 2, 3, 4, 5):
            for run in range(6):
                house, model = some_house(chance_for("fold start", size, run), size, 40)
                flips = house.folded()
                self.assertIs(flips.__class__, list)
                for bits in all_bits(size):
                    self.assertEqual(bits_after(bits, flips), bits_after(bits, model.done))
                rows = [set(table_of(size, model.done).row(cell)) ^ {cell} for cell in range(size)]
                self.assertEqual(len(flips), rank_of_rows(rows))

    def test_forty_cells(self):
        house, model = new_house(chance_for("fold forty"), 40)
        chance = chance_for("forty flips")
        for time in range(60):
            flip = some_flip(chance, 40)
            house.act("ann", flip, time=time)
            model.act("ann", flip, time)
        for hand in HANDS:
            house.hear(hand, time=10 ** 18)
            model.hear(hand, 10 ** 18)
        for time in (10, 11, 40, 10 ** 18):
            house.fold(time=time)
            model.fold(time)
            self.agrees(house, model)
            flips = house.folded()
            self.assertEqual(table_of(40, flips), table_of(40, model.done))
            rows = [set(table_of(40, flips).row(cell)) ^ {cell} for cell in range(40)]
            self.assertEqual(len(flips), rank_of_rows(rows))

    def test_several_folds_against_one(self):
        for size in (1, 2, 4, 9, 40):
            chance = chance_for("several folds", size)
            one, model = new_house(chance, size)
            one.receive(some_entries(chance, model, 30))
            for hand in HANDS:
                one.hear(hand, time=9)
            other, third = one.copied(), one.copied()
            one.fold(time=5)
            for time in (0, 1, 2, 5):
                other.fold(time=time)
            third.fold(time=3)
            self.assertFalse(third == one)
            third.fold(time=5)
            self.assertTrue(one == other)
            self.assertTrue(third == one)
            self.assertEqual([one.base(), one.entries()], [other.base(), other.entries()])
            self.assertEqual(len(one.folded()), len(other.folded()))

    def test_folding_without_entries(self):
        house = House(["ann"], Board(4, up=[1]))
        house.hear("ann", time=0)
        house.fold(time=0)
        self.assertEqual([house.horizon(), str(house.base()), house.folded()], [0, "1100", []])

    def test_removed_entries_have_no_effect_when_folded(self):
        house = pair()
        house.remove("ann", ANN)
        for hand in ("ann", "bob"):
            house.hear(hand, time=9)
        house.fold(time=9)
        self.assertEqual([str(house.base()), house.folded()], ["1100", [LATER]])

    def test_the_folded_list_belongs_to_the_caller(self):
        house = folded_pair()
        found = house.folded()
        found.clear()
        self.assertEqual(house.folded(), [FLIP])
        House(["ann"], Board(3)).folded().append(FLIP)
        self.assertEqual(House(["ann"], Board(3)).folded(), [])


class Copied(HouseCase):

    def test_the_same_state(self):
        for size in (1, 4, 40):
            house, model = some_house(chance_for("copied", size), size, 30)
            twin = house.copied()
            self.assertIs(twin.__class__, House)
            self.assertTrue(twin == house)
            self.agrees(twin, model)
            self.assertEqual(state_of(twin), state_of(house))

    def test_independent(self):
        house = pair()
        twin, other = house.copied(), house.copied()
        before = state_of(house)
        twin.remove("ann", ANN)
        twin.act("bob", FLIP, time=1)
        twin.hear("ann", time=9)
        twin.receive([((8, "ann", 4), FLIP, True, 0), (BOB, LATER, False, 5)])
        twin.hear("bob", time=9)
        twin.fold(time=6)
        self.assertEqual([state_of(house), state_of(other)], [before, before])
        after = state_of(twin)
        house.remove("bob", BOB)
        house.hear("bob", time=8)
        house.act("ann", FLIP, time=9)
        self.assertEqual([state_of(twin), state_of(other)], [after, before])

    def test_copies_go_on_alike(self):
        chance = chance_for("go on")
        for size in (2, 5):
            house, model = some_house(chance, size, 25)
            twin = house.copied()
            model_twin = HouseModel(model.hands, model.bits)
            model_twin.__dict__.update({
                "rows": dict(model.rows), "done": list(model.done), "horizon": model.horizon,
                "heard": dict(model.heard), "numbers": {hand: set(model.numbers[hand]) for hand in model.hands},
            })
            for index in range(20):
                one_step(chance_for("step", size, index), house, model)
                one_step(chance_for("step", size, index), twin, model_twin)
                self.assertTrue(house == twin)
                self.assertEqual(state_of(house), state_of(twin))


class Compared(HouseCase):

    def test_equal(self):
        self.assertTrue(pair() == pair())
        self.assertFalse(pair() != pair())
        self.assertTrue(House(["ann"], Board(4)) == House(("ann",), Board(4)))

    def test_what_makes_a_difference(self):
        every = [pair() for index in range(6)]
        every[0].remove("ann", ANN)
        every[1].remove("ann", ANN)
        every[1].restore("ann", ANN)
        every[2].act("ann", FLIP, time=5)
        every[3].receive([(ANN, FLIP, True, 4)])
        for house in every[4:]:
            house.hear("ann", time=8)
            house.hear("bob", time=8)
        every[4].fold(time=0)
        every[5].fold(time=6)
        every += [folded_pair(), House(["ann", "bob"], Board(4, up=[1])), House(["bob", "ann"], Board(4, up=[1]))]
        every += [House(["ann"], Board(4, up=[1])), House(["ann", "bob"], Board(4))]
        every += [House(["ann", "bob"], Board(5, up=[1]))]
        every += [House(["ann", "bob", "cy"], Board(4, up=[1])), pair()]
        for (index, one), (place, other) in itertools.product(enumerate(every), repeat=2):
            self.assertIs(one == other, index == place)
            self.assertIs(one != other, index != place)

    def test_what_was_heard_and_numbers_make_none(self):
        one, other = pair(), pair()
        other.hear("ann", time=9)
        self.assertTrue(one == other)
        one.receive([((1, "ann", 5), FLIP, True, 0)])
        other.receive([((1, "ann", 5), FLIP, True, 0)])
        for house in (one, other):
            house.hear("ann", time=9)
            house.hear("bob", time=9)
        third = one.copied()
        third.receive([((2, "ann", 1), Flip([], []), True, 0)])
        one.fold(time=3)
        third.fold(time=3)
        self.assertTrue(one == third)
        self.assertNotEqual(one.act("ann", FLIP, time=9), third.act("ann", FLIP, time=9))

    def test_tables_of_the_folded_sequences(self):
        # Both base boards are the start board, but the tables differ.
        one, other = House(["ann"], Board(4)), House(["ann"], Board(4))
        one.act("ann", add_flip(1, to=2), time=1)
        other.act("ann", add_flip(1, to=3), time=1)
        for house in (one, other):
            house.hear("ann", time=1)
            house.fold(time=1)
        self.assertEqual([one.base(), one.entries()], [other.base(), other.entries()])
        self.assertIs(one == other, False)

    def test_other_flips_with_the_same_table(self):
        one, other = House(["ann"], Board(4)), House(["ann"], Board(4))
        for flip in (swap_flip(1, 2), swap_flip(2, 3)):
            one.act("ann", flip, time=1)
        for flip in (swap_flip(1, 3), swap_flip(1, 2)):
            other.act("ann", flip, time=1)
        self.assertIs(one == other, False)
        for house in (one, other):
            house.hear("ann", time=1)
            house.fold(time=1)
        self.assertIs(one == other, True)

    def test_base_boards(self):
        # The tables agree only on sizes; the same table from other start boards gives other base boards.
        one, other = House(["ann"], Board(4)), House(["ann"], Board(4, up=[1]))
        for house in (one, other):
            house.hear("ann", time=1)
            house.fold(time=1)
        self.assertIs(one == other, False)

    def test_nothing_else(self):
        house = pair()
        same_board = History(Board(4, up=[1]))
        others = [
            None, True, 2, "house", ["ann", "bob"], house.entries(), {}, object(), Thing(), House, Board(4, up=[1]),
            same_board, mock.ANY,
        ]
        for other in others:
            with self.subTest(repr(other)):
                self.assertIs(house == other, False)
                self.assertIs(house != other, True)
        thing = Thing()
        vars(thing).update(vars(house))
        self.assertIs(house == thing, False)


class SameEntriesSameBoard(HouseCase):

    def test_in_whatever_order_and_steps(self):
        for size in (1, 3, 6, 40):
            chance = chance_for("same entries", size)
            first, model = new_house(chance, size)
            early, late = some_entries(chance, model, 20), []
            model.receive(early)
            model.fold(4)
            late = some_entries(chance, model, 12)
            results = []
            for index in range(4):
                house = House(HANDS, first.start())
                self.deliver(chance, house, early, (1, 4) if index % 2 else (4,))
                for entry in chance.sample(late, len(late)):
                    house.receive([entry])
                results.append(house)
            model.receive(late)
            for house in results:
                self.assertTrue(house == results[0])
                self.assertEqual(bits_of(house.board()), model.now())

    def deliver(self, chance, house, entries, times):
        """Give the entries to the house, in any order and partly again, and fold at these times."""
        mixed = chance.sample(entries, len(entries))
        house.receive(mixed[:7])
        house.receive(mixed[3:])
        for hand in house.hands():
            house.hear(hand, time=4)
        for time in times:
            house.fold(time=time)


class Places(HouseCase):

    def test_defined_in_this_file_and_class(self):
        self.assertEqual(houses.House.__module__, "paritycells.houses")
        for name in METHODS + ("__eq__", "__len__"):
            self.assertIn(name, vars(House))


if __name__ == "__main__":
    unittest.main()
