"""Powers: any number of passes, periods, first visits, and boards midway through a pass."""

import itertools
import math
import unittest

from checks import CheckCase
from models import (
    SIZES, all_bits, all_rows, bits_after, bits_of, board_of, chance_for, parity_of, some_bits, some_flips,
)
from paritycells import powers
from paritycells.boards import Board
from paritycells.errors import NoCount, TooMany, TooWide, Unlike
from paritycells.flips import Flip, add_flip, swap_flip, turn_flip
from paritycells.powers import board_after, board_midway, first_visit, period_of, power_of, returns_after
from paritycells.tables import Table, identity_table, table_of
from strange import NOT_INTEGERS

HUGE = 10 ** 30
GREAT = [HUGE, HUGE - 1, 10 ** 18 + 7, 2 ** 64, 2 ** 99 - 1, 13]
BEYOND = NOT_INTEGERS + [HUGE + 1, -HUGE - 1, 10 ** 40, -10 ** 40]
BELOW = NOT_INTEGERS + [-1, HUGE + 1, -HUGE, 10 ** 40]
ROUND = [swap_flip(1, 2), swap_flip(2, 3)]


def image(rows, bits):
    """Return the states after one pass."""
    return [parity_of(bits, row) for row in rows]


def rows_of(table):
    return [table.row(cell) for cell in range(table.size())]


def round_from(rows, bits):
    """Return all states through which the passes go, until they return."""
    found = [bits]
    while (after := image(rows, found[-1])) != bits:
        found.append(after)
    return found


def small_tables():
    """Return the rows of all tables of up to three cells, and of some with four and five cells."""
    chance = chance_for("small tables")
    every = [rows for size in range(1, 4) for rows in all_rows(size)]
    more = chance.sample(all_rows(4), 60)
    wider = [rows_of(table_of(5, some_flips(chance, 5, many))) for many in range(1, 25)]
    return every + more + wider


def tables_to_ten():
    """Return tables of up to ten cells, also with long periods."""
    chance = chance_for("tables to ten")
    sizes = [1, 2, 3, 4, 5, 6, 7, 8, 8, 9, 9, 10, 10, 10, 10]
    found = [table_of(size, some_flips(chance, size, 20)) for size in sizes]
    found += [table_of(size, [swap_flip(cell, cell + 1) for cell in range(1, size - 1)]) for size in range(3, 11)]
    found += [table_of(10, [turn_flip(1)] + [add_flip(cell, to=cell + 1) for cell in range(1, 9)])]
    return found


class Powers(CheckCase):

    def test_pass_by_pass(self):
        for rows in small_tables():
            table = Table(rows)
            forth, back = identity_table(table.size()), identity_table(table.size())
            for count in range(13):
                self.assertEqual(power_of(table, count), forth)
                self.assertEqual(power_of(table, -count), back)
                self.assertIs(power_of(table, count).__class__, Table)
                forth, back = forth.then(table), back.then(table.inverse())

    def test_pass_by_pass_on_boards(self):
        for rows in small_tables():
            table = Table(rows)
            for bits in all_bits(len(rows)):
                forth = bits
                for count in range(13):
                    power, back = power_of(table, count), power_of(table, -count)
                    self.assertEqual(image(rows_of(power), bits), forth)
                    self.assertEqual(image(rows_of(back), forth), bits)
                    forth = image(rows, forth)

    def test_great_counts_by_the_round_of_each_board(self):
        for rows in small_tables():
            found = {count: rows_of(power_of(Table(rows), count)) for great in GREAT for count in (great, -great)}
            for bits in all_bits(len(rows)):
                passed = round_from(rows, bits)
                for count in found:
                    self.assertEqual(image(found[count], bits), passed[count % len(passed)])

    def test_each_size(self):
        for size in SIZES:
            chance = chance_for("each size", size)
            flips = some_flips(chance, size, 12)
            table = table_of(size, flips)
            for count in (0, 1, 2, 5, 11):
                self.assertEqual(power_of(table, count), table_of(size, flips * count))
                self.assertEqual(power_of(table, -count), table_of(size, flips[::-1] * count))

    def test_forty_cells(self):
        forward = [swap_flip(cell, cell + 1) for cell in range(1, 39)]
        table = table_of(40, forward)
        for count in (HUGE, -HUGE, HUGE - 17, 39, 38, 0, -1):
            self.assertEqual(power_of(table, count), table_of(40, forward * (count % 39)))
        shifted = table_of(40, some_flips(chance_for("forty"), 40, 90))
        self.assertEqual(power_of(shifted, HUGE).then(power_of(shifted, -HUGE)), identity_table(40))
        self.assertEqual(power_of(shifted, HUGE - 1).then(shifted), power_of(shifted, HUGE))

    def test_sums_and_products_of_counts(self):
        chance = chance_for("sums")
        for size in (2, 4, 7, 12, 40):
            table = table_of(size, some_flips(chance, size, 15))
            great = 10 ** 15
            for one, other in ((3, 4), (5, -7), (great, great // 10 + 1), (-great, great), (-9, -10 ** 12), (0, 8)):
                together = power_of(table, one).then(power_of(table, other))
                self.assertEqual(together, power_of(table, one + other))
                self.assertEqual(power_of(power_of(table, one), other), power_of(table, one * other))

    def test_the_identity(self):
        for size in SIZES:
            for count in (0, 1, -1, HUGE, -HUGE):
                self.assertTrue(power_of(identity_table(size), count).is_identity())

    def test_no_count(self):
        table = table_of(4, ROUND)
        for count in BEYOND:
            with self.subTest(repr(count)):
                self.refuses(NoCount, "count", count, power_of, table, count)
        self.assertEqual(power_of(table, HUGE), table)
        self.assertEqual(power_of(table, -HUGE), table.inverse())

    def test_the_table_does_not_change(self):
        table = table_of(4, ROUND)
        power_of(table, 2)
        power_of(table, -2)
        self.assertEqual(table, table_of(4, ROUND))

    def test_arguments(self):
        self.takes(power_of, "table", "count")
        self.assertEqual(power_of(count=3, table=table_of(4, ROUND)), identity_table(4))


class After(CheckCase):

    def test_by_the_round_of_each_board(self):
        counts = list(range(-12, 13)) + GREAT + [-great for great in GREAT]
        for rows in small_tables()[::4]:
            for bits in all_bits(len(rows)):
                passed = round_from(rows, bits)
                for count in counts:
                    found = board_after(Table(rows), board_of(bits), passes=count)
                    self.assertIs(found.__class__, Board)
                    self.assertEqual(bits_of(found), passed[count % len(passed)])

    def test_each_size(self):
        for size in SIZES:
            chance = chance_for("after", size)
            flips, bits = some_flips(chance, size, 9), some_bits(chance, size)
            table = table_of(size, flips)
            for count in (0, 1, 7, 12):
                there = board_after(table, board_of(bits), passes=count)
                self.assertEqual(bits_of(there), bits_after(bits, flips * count))
                self.assertEqual(bits_of(board_after(table, there, passes=-count)), bits)
            there = board_after(table, board_of(bits), passes=HUGE)
            self.assertEqual(bits_of(board_after(table, there, passes=-HUGE)), bits)

    def test_unlike_ahead_of_no_count(self):
        for size, other in itertools.permutations((1, 2, 3, 39, 40), 2):
            for passes in (0, 1, HUGE, HUGE + 1, True, None):
                fields = {"one": size, "other": other}
                self.fails(Unlike, fields, board_after, identity_table(size), Board(other), passes=passes)

    def test_no_count(self):
        board = Board(4, up=[1])
        for passes in BEYOND:
            with self.subTest(repr(passes)):
                self.refuses(NoCount, "count", passes, board_after, table_of(4, ROUND), board, passes=passes)
        self.assertEqual(board, Board(4, up=[1]))

    def test_arguments(self):
        self.takes(board_after, "table", "board", "*", "passes")
        found = board_after(passes=2, board=Board(4, up=[1]), table=table_of(4, ROUND))
        self.assertEqual(str(found), "1010")
        with self.assertRaises(TypeError):
            board_after(table_of(4, ROUND), Board(4), 2)


class Returns(CheckCase):

    def test_by_the_rounds_of_all_boards(self):
        for rows in small_tables()[::2]:
            lengths = [len(round_from(rows, bits)) for bits in all_bits(len(rows))]
            for count in list(range(-12, 13)) + GREAT + [-great for great in GREAT]:
                expected = all(count % length == 0 for length in lengths)
                self.assertIs(returns_after(Table(rows), count), expected)

    def test_forty_cells(self):
        table = table_of(40, [swap_flip(cell, cell + 1) for cell in range(1, 39)])
        for count in (0, 39, -39, 39 * 10 ** 28):
            self.assertIs(returns_after(table, count), True)
        for count in (1, 38, -13, HUGE, 39 * 10 ** 28 + 13):
            self.assertIs(returns_after(table, count), False)

    def test_no_count(self):
        for count in BEYOND:
            with self.subTest(repr(count)):
                self.refuses(NoCount, "count", count, returns_after, table_of(4, ROUND), count)

    def test_arguments(self):
        self.takes(returns_after, "table", "count")
        self.assertIs(returns_after(count=-3, table=table_of(4, ROUND)), True)


class Midway(CheckCase):

    def test_flip_by_flip(self):
        for size in (1, 2, 3, 5, 17, 40):
            chance = chance_for("midway", size)
            flips, bits = some_flips(chance, size, 6), some_bits(chance, size)
            for passes, done in itertools.product(range(13), range(7)):
                found = board_midway(flips, board_of(bits), passes=passes, done=done)
                self.assertIs(found.__class__, Board)
                self.assertEqual(bits_of(found), bits_after(bits, flips * passes + flips[:done]))

    def test_great_counts_by_the_round(self):
        for size in (2, 3, 4, 5):
            chance = chance_for("midway rounds", size)
            flips = some_flips(chance, size, 5)
            rows = rows_of(table_of(size, flips))
            for bits, great, done in itertools.product(all_bits(size), GREAT, range(6)):
                passed = round_from(rows, bits)
                expected = bits_after(passed[great % len(passed)], flips[:done])
                found = board_midway(tuple(flips), board_of(bits), passes=great, done=done)
                self.assertEqual(bits_of(found), expected)

    def test_no_flips(self):
        for flips in ([], ()):
            self.assertEqual(board_midway(flips, Board(3, up=[1]), passes=HUGE, done=0), Board(3, up=[1]))
            self.fails(NoCount, {"count": 1}, board_midway, flips, Board(3), passes=0, done=1)

    def test_two_hundred_flips(self):
        flips = some_flips(chance_for("two hundred"), 40, 200)
        bits = some_bits(chance_for("their bits"), 40)
        found = board_midway(flips, board_of(bits), passes=1, done=200)
        self.assertEqual(bits_of(found), bits_after(bits, flips * 2))

    def test_too_wide_ahead_of_no_count(self):
        for passes, done in itertools.product((0, -1, True, HUGE + 1), (0, 3, -1, None)):
            flips = [turn_flip(1), turn_flip(5), turn_flip(9)]
            self.fails(TooWide, {"needed": 6}, board_midway, flips, Board(4), passes=passes, done=done)
        flips = [turn_flip(1), Flip([5], [])]
        self.fails(TooWide, {"needed": 6}, board_midway, flips, Board(5), passes=0, done=0)

    def test_passes_ahead_of_done(self):
        for passes in BELOW:
            for done in (0, 2, 3, -1, True, None):
                with self.subTest(repr(passes)):
                    self.refuses(NoCount, "count", passes, board_midway, ROUND, Board(4), passes=passes, done=done)

    def test_done(self):
        for done in NOT_INTEGERS + [-1, 3, 4, HUGE]:
            for passes in (0, HUGE):
                with self.subTest(repr(done)):
                    self.refuses(NoCount, "count", done, board_midway, ROUND, Board(4), passes=passes, done=done)

    def test_arguments_do_not_change(self):
        flips, board = list(ROUND), Board(4, up=[1])
        found = board_midway(flips, board, passes=2, done=1)
        self.assertEqual([flips, board], [ROUND, Board(4, up=[1])])
        flips.clear()
        self.assertEqual(str(found), "1100")

    def test_arguments(self):
        self.takes(board_midway, "flips", "board", "*", "passes", "done")
        self.assertEqual(str(board_midway(done=1, passes=2, board=Board(4, up=[1]), flips=ROUND)), "1100")
        with self.assertRaises(TypeError):
            board_midway(ROUND, Board(4), 2, 1)


class Periods(CheckCase):

    def test_small_tables(self):
        for rows in small_tables():
            lengths = [len(round_from(rows, bits)) for bits in all_bits(len(rows))]
            self.assertEqual(period_of(Table(rows)), math.lcm(*lengths))

    def test_up_to_ten_cells(self):
        longest = 0
        for table in tables_to_ten():
            rows = rows_of(table)
            lengths = [len(round_from(rows, bits)) for bits in all_bits(table.size())[::3]]
            lengths += [len(round_from(rows, bits_of(Board(table.size(), up=[cell])))) for cell in range(table.size())]
            period = period_of(table)
            self.assertIs(period.__class__, int)
            self.assertEqual(period, math.lcm(*lengths))
            self.assertIs(returns_after(table, period), True)
            longest = max(longest, period)
        self.assertGreater(longest, 100)

    def test_the_identity(self):
        for size in range(1, 11):
            self.assertEqual(period_of(identity_table(size)), 1)

    def test_too_many(self):
        for size in (11, 12, 40):
            self.fails(TooMany, {"limit": 10}, period_of, identity_table(size))

    def test_arguments(self):
        self.takes(period_of, "table")
        self.assertEqual(period_of(table=table_of(4, ROUND)), 3)


class Visits(CheckCase):

    def test_all_boards_of_small_sizes(self):
        for rows in small_tables():
            table = Table(rows)
            for bits in all_bits(len(rows)):
                passed = round_from(rows, bits)
                for other in all_bits(len(rows)):
                    expected = passed.index(other) if other in passed else None
                    self.assertEqual(first_visit(table, board_of(bits), board_of(other)), expected)

    def test_up_to_ten_cells(self):
        for table in tables_to_ten():
            chance = chance_for("visits", table.size())
            bits = some_bits(chance, table.size())
            passed = round_from(rows_of(table), bits)
            others = [some_bits(chance, table.size()) for index in range(8)] + [passed[-1], passed[len(passed) // 2]]
            for other in others:
                expected = passed.index(other) if other in passed else None
                self.assertEqual(first_visit(table, board_of(bits), board_of(other)), expected)

    def test_the_same_board(self):
        for table in tables_to_ten():
            board = board_of(some_bits(chance_for("same"), table.size()))
            found = first_visit(table, board, Board(board.size(), up=board.up()))
            self.assertEqual(found, 0)
            self.assertIs(found.__class__, int)

    def test_no_visit(self):
        self.assertIsNone(first_visit(identity_table(3), Board(3), Board(3, up=[1])))
        self.assertIsNone(first_visit(table_of(4, ROUND), Board(4, up=[1]), Board(4, up=[1, 2])))

    def test_unlike(self):
        for size, one, other in itertools.product((1, 3, 10, 11, 40), repeat=3):
            table = identity_table(size)
            first = one if one != size else other
            if first != size:
                self.fails(Unlike, {"one": size, "other": first}, first_visit, table, Board(one), Board(other))

    def test_too_many_after_unlike(self):
        for size in (11, 12, 40):
            self.fails(TooMany, {"limit": 10}, first_visit, identity_table(size), Board(size), Board(size))
            fields = {"one": size, "other": 10}
            self.fails(Unlike, fields, first_visit, identity_table(size), Board(size), Board(10))

    def test_arguments(self):
        self.takes(first_visit, "table", "one", "other")
        found = first_visit(other=Board(4, up=[2]), one=Board(4, up=[1]), table=table_of(4, ROUND))
        self.assertEqual(found, 2)


class Places(CheckCase):

    def test_defined_in_this_file(self):
        for name in ("power_of", "board_after", "returns_after", "board_midway", "period_of", "first_visit"):
            self.assertEqual(getattr(powers, name).__module__, "paritycells.powers")


if __name__ == "__main__":
    unittest.main()
