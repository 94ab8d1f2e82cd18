"""Folding: the deeds of a house, the difference of two houses, and entries that acted or matter."""

import itertools
import unittest

from checks import CheckCase
from house_models import HANDS, new_house, some_house
from models import all_bits, bits_after, chance_for, parity_of, rank_of_rows, some_flip
from paritycells import folding
from paritycells.boards import Board
from paritycells.errors import NoCell, Unlike
from paritycells.flips import add_flip, turn_flip
from paritycells.folding import acting_stamps, deeds_table, difference_of, mattering_stamps
from paritycells.houses import House
from paritycells.sequences import apply_flips
from paritycells.tables import Table, table_of
from strange import NOT_INTEGERS

ANN, BOB = (5, "ann", 0), (7, "bob", 0)


def pair():
    """Return a house with an entry of each of its two hands."""
    house = House(["ann", "bob"], Board(4, up=[1]))
    house.act("ann", add_flip(1, to=2), time=5)
    house.act("bob", add_flip(2, to=3), time=7)
    return house


def all_houses(*seed):
    """Return houses with and without folds, with their models."""
    found = []
    for size in (1, 2, 3, 4, 5, 9, 40):
        for steps in (0, 3, 12, 30):
            found.append(some_house(chance_for("houses", size, steps, *seed), size, steps))
        house, model = new_house(chance_for("no folds", size, *seed), size)
        for time in (4, 2, 9, 2, 0):
            flip = some_flip(chance_for("flips", size, time, *seed), size)
            house.act("bob", flip, time=time)
            model.act("bob", flip, time)
        found.append((house, model))
    return found


def plain_acts(model):
    """Return the stamps of all entries that change, or would change, the states just before them."""
    found = []
    for stamp in sorted(model.rows):
        before = bits_after(model.bits, model.done + model.standing(lambda each: each < stamp))
        if bits_after(before, [model.rows[stamp][0]]) != before:
            found.append(stamp)
    return found


def plain_matters(model, cell):
    """Return the stamps of all entries whose switching changes the cell."""
    found = []
    for stamp in sorted(model.rows):
        now = model.now()
        model.switch(stamp)
        if model.now()[cell] != now[cell]:
            found.append(stamp)
        model.switch(stamp)
    return found


class FoldingCase(CheckCase):

    def unchanged(self, call, *given, **named):
        """Return what the call returns twice, and expect the houses not to change."""
        kept = [house.copied() for house in given]
        first = call(*given, **named)
        self.assertEqual(call(*given, **named), first)
        for house, before in zip(given, kept):
            self.assertTrue(house == before)
            self.assertEqual([house.heard(hand) for hand in HANDS if hand in house.hands()],
                             [before.heard(hand) for hand in HANDS if hand in house.hands()])
        return first


class Deeds(FoldingCase):

    def test_against_the_model(self):
        for house, model in all_houses("deeds"):
            table = self.unchanged(deeds_table, house)
            self.assertIs(table.__class__, Table)
            self.assertEqual(table, table_of(len(model.bits), model.deeds()))
            self.assertEqual(table.image(house.start()), house.board())

    def test_on_all_boards_of_small_sizes(self):
        folds = 0
        for house, model in all_houses("all boards"):
            size = len(model.bits)
            folds += house.horizon() >= 0
            if size <= 5:
                table = deeds_table(house)
                for bits in all_bits(size):
                    found = [parity_of(bits, table.row(cell)) for cell in range(size)]
                    self.assertEqual(found, bits_after(bits, model.deeds()))
        self.assertGreater(folds, 10)

    def test_the_folded_sequence_and_the_standing_entries(self):
        for house, model in all_houses("words"):
            standing = [entry[1] for entry in house.entries() if entry[2]]
            self.assertEqual(deeds_table(house), table_of(len(model.bits), house.folded() + standing))

    def test_removed_entries_do_nothing(self):
        house = pair()
        house.remove("ann", ANN)
        self.assertEqual(deeds_table(house), table_of(4, [add_flip(2, to=3)]))

    def test_arguments(self):
        self.takes(deeds_table, "house")
        self.assertEqual(deeds_table(house=pair()).row(3), (1, 2, 3))


class Difference(FoldingCase):

    def pairs(self):
        """Return pairs of houses of one size, with their models."""
        every = all_houses("one") + all_houses("other")
        chosen = []
        for (one, model), (other, more) in itertools.product(every, repeat=2):
            if len(model.bits) == len(more.bits) and (len(model.bits) < 9 or len(chosen) % 7 == 0):
                chosen.append((one, model, other, more))
        return chosen[::3]

    def test_has_the_table_and_is_as_short_as_its_depth(self):
        for one, model, other, more in self.pairs():
            size = len(model.bits)
            flips = difference_of(one, other)
            self.assertIs(flips.__class__, list)
            wanted = table_of(size, more.deeds()[::-1] + model.deeds())
            self.assertEqual(table_of(size, flips), wanted)
            gaps = [set(wanted.row(cell)) ^ {cell} for cell in range(size)]
            self.assertEqual(len(flips), rank_of_rows(gaps))

    def test_for_every_start_board(self):
        for one, model, other, more in self.pairs()[::5]:
            if len(model.bits) <= 5:
                flips = difference_of(one, other)
                for bits in all_bits(len(model.bits)):
                    theirs = bits_after(bits, more.deeds())
                    self.assertEqual(bits_after(theirs, flips), bits_after(bits, model.deeds()))

    def test_from_board_to_board(self):
        for size in (2, 4, 40):
            chance = chance_for("board to board", size)
            one, model = some_house(chance, size, 20)
            other = House(["eve"], one.start())
            other.act("eve", some_flip(chance, size), time=3)
            self.assertEqual(apply_flips(other.board(), self.unchanged(difference_of, one, other)), one.board())
            self.assertEqual(apply_flips(one.board(), self.unchanged(difference_of, other, one)), other.board())

    def test_both_directions(self):
        for one, model, other, more in self.pairs()[::4]:
            size = len(model.bits)
            there, back = difference_of(one, other), difference_of(other, one)
            self.assertEqual(len(there), len(back))
            self.assertTrue(table_of(size, there).then(table_of(size, back)).is_identity())

    def test_the_order_of_the_two(self):
        one, other = House(["ann"], Board(4)), House(["ann"], Board(4))
        one.act("ann", add_flip(1, to=2), time=1)
        other.act("ann", add_flip(2, to=3), time=1)
        flips = difference_of(one, other)
        self.assertEqual(table_of(4, flips), table_of(4, [add_flip(2, to=3), add_flip(1, to=2)]))
        self.assertNotEqual(table_of(4, flips), table_of(4, [add_flip(1, to=2), add_flip(2, to=3)]))

    def test_empty_for_a_house_and_itself(self):
        for house, model in all_houses("itself"):
            self.assertEqual(difference_of(house, house), [])
            self.assertEqual(difference_of(house, house.copied()), [])

    def test_folded_and_not_folded(self):
        one, other = pair(), pair()
        for hand in ("ann", "bob"):
            other.hear(hand, time=9)
        other.fold(time=6)
        self.assertEqual([difference_of(one, other), difference_of(other, one)], [[], []])

    def test_unlike(self):
        for size, other in itertools.permutations((1, 2, 3, 39, 40), 2):
            fields = {"one": size, "other": other}
            self.fails(Unlike, fields, difference_of, House(["ann"], Board(size)), House(["ann"], Board(other)))

    def test_the_list_belongs_to_the_caller(self):
        one, other = pair(), House(["ann"], Board(4))
        found = difference_of(one, other)
        kept = list(found)
        found.clear()
        self.assertEqual(difference_of(one, other), kept)

    def test_arguments(self):
        self.takes(difference_of, "one", "other")
        other = House(["ann", "bob"], Board(4, up=[1]))
        other.act("ann", add_flip(1, to=2), time=5)
        self.assertEqual(difference_of(other=other, one=pair()), [add_flip(2, to=3)])


class Acting(FoldingCase):

    def test_against_the_model(self):
        seen = []
        for house, model in all_houses("acting"):
            found = self.unchanged(acting_stamps, house)
            self.assertIs(found.__class__, list)
            self.assertEqual(found, plain_acts(model))
            seen += [stamp in found for stamp in model.rows]
        self.assertGreater(min(seen.count(True), seen.count(False)), 15)

    def test_standing_and_removed_entries(self):
        house = pair()
        self.assertEqual(acting_stamps(house), [ANN, BOB])
        house.remove("ann", ANN)
        self.assertEqual(acting_stamps(house), [ANN])
        house.restore("ann", ANN)
        house.remove("bob", BOB)
        self.assertEqual(acting_stamps(house), [ANN, BOB])

    def test_from_the_base_board(self):
        house = House(["ann"], Board(4))
        house.act("ann", turn_flip(1), time=1)
        house.act("ann", add_flip(1, to=2), time=2)
        house.hear("ann", time=1)
        house.fold(time=1)
        self.assertEqual(acting_stamps(house), [(2, "ann", 1)])

    def test_the_list_belongs_to_the_caller(self):
        house = pair()
        acting_stamps(house).clear()
        self.assertEqual(acting_stamps(house), [ANN, BOB])

    def test_arguments(self):
        self.takes(acting_stamps, "house")
        self.assertEqual(acting_stamps(house=House(["ann"], Board(4))), [])


class Mattering(FoldingCase):

    def test_against_the_model(self):
        seen = []
        for house, model in all_houses("mattering"):
            size = len(model.bits)
            for cell in sorted({0, 1 % size, size // 2, size - 1}):
                found = self.unchanged(mattering_stamps, house, cell=cell)
                self.assertIs(found.__class__, list)
                self.assertEqual(found, plain_matters(model, cell))
                seen += [stamp in found for stamp in model.rows]
        self.assertGreater(min(seen.count(True), seen.count(False)), 30)

    def test_by_removing_and_restoring(self):
        for house, model in all_houses("by switching"):
            for stamp, flip, stands, changes in house.entries():
                twin = house.copied()
                (twin.remove if stands else twin.restore)(stamp[1], stamp)
                for cell in range(min(house.board().size(), 4)):
                    differs = twin.board().is_up(cell) != house.board().is_up(cell)
                    self.assertIs(stamp in mattering_stamps(house, cell=cell), differs)

    def test_the_pair(self):
        house = pair()
        found = [mattering_stamps(house, cell=cell) for cell in range(4)]
        self.assertEqual(found, [[], [], [ANN], [ANN, BOB]])
        house.remove("bob", BOB)
        found = [mattering_stamps(house, cell=cell) for cell in range(4)]
        self.assertEqual(found, [[], [], [ANN], [BOB]])

    def test_cell_0_never(self):
        for house, model in all_houses("cell 0"):
            self.assertEqual(mattering_stamps(house, cell=0), [])

    def test_no_cell(self):
        for house in (pair(), House(["ann"], Board(4))):
            for cell in NOT_INTEGERS + [-1, 4, 40, 10 ** 30]:
                with self.subTest(repr(cell)):
                    self.refuses(NoCell, "cell", cell, mattering_stamps, house, cell=cell)
        self.refuses(NoCell, "cell", 1, mattering_stamps, House(["ann"], Board(1)), cell=1)

    def test_most_entries(self):
        chance = chance_for("most entries")
        house, model = new_house(chance, 40)
        entries = [((chance.randrange(50), "ann", number), some_flip(chance, 40), True, 0) for number in range(300)]
        house.receive(entries)
        model.receive(entries)
        self.assertEqual(acting_stamps(house), plain_acts(model))
        stamps = mattering_stamps(house, cell=7)
        for stamp in sorted(model.rows)[::30]:
            now = model.now()
            model.switch(stamp)
            self.assertIs(stamp in stamps, model.now()[7] != now[7])
            model.switch(stamp)

    def test_the_list_belongs_to_the_caller(self):
        house = pair()
        mattering_stamps(house, cell=3).clear()
        self.assertEqual(mattering_stamps(house, cell=3), [ANN, BOB])

    def test_arguments(self):
        self.takes(mattering_stamps, "house", "*", "cell")
        self.assertEqual(mattering_stamps(cell=2, house=pair()), [ANN])
        with self.assertRaises(TypeError):
            mattering_stamps(pair(), 2)


class Places(FoldingCase):

    def test_defined_in_this_file(self):
        for name in ("deeds_table", "difference_of", "acting_stamps", "mattering_stamps"):
            self.assertEqual(getattr(folding, name).__module__, "paritycells.folding")


if __name__ == "__main__":
    unittest.main()
