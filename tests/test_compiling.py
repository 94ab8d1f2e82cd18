"""Compiling: flip counts, the flips of a call, its table, and calls done on boards."""

import copy
import itertools
import unittest

from checks import CheckCase
from models import all_bits, bits_after, bits_of, board_of, chance_for, parity_of, some_bits
from paritycells import compiling
from paritycells.boards import Board
from paritycells.compiling import call_flips, call_table, flip_count, run_call
from paritycells.errors import NoCells, NoCount, NoProcedure, NoSize, TooMany
from paritycells.flips import Flip, add_flip
from paritycells.programs import Program
from paritycells.sequences import reversed_flips
from paritycells.tables import Table, identity_table, table_of
from program_models import chain, plain_flips, plain_run, some_procedures
from strange import NOT_CELLS, NOT_INTEGERS, NOT_LISTS, NOT_STAMPS, Thing

COPY = (("a", "b"), (("flip", ("a",), ("b",)),))
TWICE = (("a", "b"), (("times", 2, (("do", "copy", ("a", "b")),)),))
PROGRAM = Program({"copy": COPY, "twice": TWICE})
# Takes a to b, b to c and c to a.
ROUND = (("a", "b", "c"), (("flip", ("a", "b"), ("a", "b")), ("flip", ("a", "c"), ("a", "c"))))
NOT_PROCEDURES = NOT_INTEGERS + NOT_LISTS + NOT_STAMPS + [
    "Copy", "copy ", "", "one", "a", "thrice", ("copy",), ["copy"],
]
NOT_SIZES = NOT_INTEGERS + [0, -1, 41, 10 ** 30, -10 ** 30]
HUGE = 10 ** 30


def nested(counts, inner):
    """Return a body around the inner one, with one "times" step for each count, the first one outermost."""
    body = inner
    for count in reversed(counts):
        body = (("times", count, body),)
    return body


def some_programs(*seed, many=40, counts=(0, 1, 2, 3)):
    """Return dicts of procedures."""
    chance = chance_for("programs", *seed)
    return [some_procedures(chance, chance.choice([1, 2, 3, 5]), 4, counts) for index in range(many)]


def few(procedures, name):
    """Return whether a plain expansion does not take long."""
    return flip_count(Program(procedures), name) <= 3000


def cells_for(chance, procedures, name, size):
    """Return cells to call the procedure with, or None if the size has too few."""
    many = len(procedures[name][0])
    return None if many > size - 1 else chance.sample(range(1, size), many)


class Counts(CheckCase):

    def test_against_the_plain_expansion(self):
        seen = 0
        for procedures in some_programs("count", many=150):
            program = Program(procedures)
            for name in procedures:
                if few(procedures, name):
                    cells = list(range(1, len(procedures[name][0]) + 1))
                    self.assertEqual(flip_count(program, name), len(plain_flips(procedures, name, cells)))
                    self.assertIs(flip_count(program, name).__class__, int)
                    seen += 1
        self.assertGreater(seen, 200)

    def test_idle_flips_count(self):
        body = (("flip", (), ()), ("flip", ("a",), ()), ("flip", (), ("a",)))
        self.assertEqual(flip_count(Program({"idle": (("a",), body)}), "idle"), 3)

    def test_counts_multiply(self):
        flip = ("flip", ("one",), ("a",))
        for counts in itertools.product((0, 1, 2, HUGE), repeat=4):
            for inner in ((), (flip,), (flip, flip, flip)):
                expected = len(inner)
                for count in counts:
                    expected *= count
                program = Program({"main": (("a",), nested(counts, inner))})
                self.assertEqual(flip_count(program, "main"), expected)

    def test_undone_calls_count(self):
        often = ("times", HUGE, (("undo", "twice", ("a", "b")),))
        body = (("do", "copy", ("a", "b")), ("undo", "twice", ("b", "a")), often)
        program = Program({"copy": COPY, "twice": TWICE, "main": (("a", "b"), body)})
        self.assertEqual(flip_count(program, "main"), 1 + 2 + 2 * HUGE)

    def test_chains_of_twelve(self):
        program = Program(chain(ROUND))
        self.assertEqual(len(program), 12)
        for index, name in enumerate(program.names()):
            self.assertEqual(flip_count(program, name), 2 * 20 ** index)

    def test_chains_of_twelve_with_great_counts(self):
        program = Program(chain(ROUND, step=lambda name, names: nested((HUGE,) * 4, (("do", name, names),))[0]))
        for index, name in enumerate(program.names()):
            self.assertEqual(flip_count(program, name), 2 * (20 * HUGE ** 4) ** index)

    def test_chains_without_flips(self):
        program = Program(chain(((), ()), step=lambda name, names: ("times", HUGE, (("do", name, names),))))
        self.assertEqual([flip_count(program, name) for name in program.names()], [0] * 12)

    def test_no_procedure(self):
        for name in NOT_PROCEDURES:
            with self.subTest(repr(name)):
                self.refuses(NoProcedure, "name", name, flip_count, PROGRAM, name)

    def test_arguments(self):
        self.takes(flip_count, "program", "name")
        self.assertEqual(flip_count(name="twice", program=PROGRAM), 2)


class Flips(CheckCase):

    def test_against_the_plain_expansion(self):
        chance = chance_for("call flips")
        listed = refused = 0
        for procedures in some_programs("flips", many=200, counts=(0, 1, 2, 5, 9, 20)):
            program = Program(procedures)
            for name in [name for name in procedures if few(procedures, name)]:
                cells = chance.sample(range(1, 40), len(procedures[name][0]))
                expected = plain_flips(procedures, name, cells)
                if len(expected) > 200:
                    self.fails(TooMany, {"limit": 200}, call_flips, program, name, cells)
                    refused += 1
                    continue
                found = call_flips(program, name, cells)
                self.assertIs(found.__class__, list)
                self.assertEqual(found, expected)
                listed += 1
        self.assertGreater(min(listed, refused), 10)

    def test_nested_four_deep(self):
        flips = (("flip", ("a",), ("b",)), ("flip", ("one",), ("a",)))
        procedures = {"main": (("a", "b"), nested((2, 3, 1, 2), flips) + flips)}
        self.assertEqual(call_flips(Program(procedures), "main", (7, 3)), plain_flips(procedures, "main", (7, 3)))
        self.assertEqual(len(plain_flips(procedures, "main", (7, 3))), 26)

    def test_the_order_of_steps(self):
        body = (
            ("flip", ("a",), ("b",)), ("do", "copy", ("b", "a")), ("times", 2, (("flip", ("one",), ("a",)),)),
            ("flip", ("one", "b"), ()),
        )
        program = Program({"copy": COPY, "main": (("a", "b"), body)})
        written = [str(flip) for flip in call_flips(program, "main", [5, 2])]
        self.assertEqual(written, ["5>2", "2>5", "0>5", "0>5", "0,2>-"])

    def test_an_undone_call_is_the_reversed_list(self):
        chance = chance_for("undone")
        seen = 0
        for procedures in some_programs("undone", many=100):
            for name in [name for name in procedures if few(procedures, name)]:
                parameters = procedures[name][0]
                cells = chance.sample(range(1, 40), len(parameters))
                wide = {**procedures, "undone": (parameters, (("undo", name, parameters),))}
                twice = {**wide, "redone": (parameters, (("undo", "undone", parameters),))}
                program = Program(twice)
                if flip_count(program, name) <= 200:
                    flips = call_flips(program, name, cells)
                    self.assertEqual(call_flips(program, "undone", cells), reversed_flips(flips))
                    self.assertEqual(call_flips(program, "redone", cells), flips)
                    seen += len(flips) > 1
        self.assertGreater(seen, 20)

    def test_undone_repeated_calls(self):
        body = (("flip", ("a",), ("b",)), ("flip", ("b",), ("a",)), ("undo", "copy", ("a", "b")))
        procedures = {"copy": COPY, "pair": (("a", "b"), body), "main": (("a", "b"), ())}
        procedures["main"] = (("a", "b"), (("times", 2, (("undo", "pair", ("b", "a")), ("do", "pair", ("a", "b")))),))
        written = [str(flip) for flip in call_flips(Program(procedures), "main", (1, 2))]
        self.assertEqual(written, ["2>1", "1>2", "2>1", "1>2", "2>1", "1>2"] * 2)

    def test_limits(self):
        program = Program({"copy": COPY, "many": (("a", "b"), (("times", 7, COPY[1]),)), "none": ((), ())})
        self.assertEqual(call_flips(program, "many", (1, 2), limit=7), [add_flip(1, to=2)] * 7)
        self.assertEqual(call_flips(program, "many", (1, 2), limit=200), [add_flip(1, to=2)] * 7)
        for limit in (0, 1, 6):
            self.fails(TooMany, {"limit": limit}, call_flips, program, "many", (1, 2), limit=limit)
        for limit in (0, 1, 200):
            self.assertEqual(call_flips(program, "none", [], limit=limit), [])

    def test_just_enough_and_one_too_few(self):
        for many in (1, 20, 199, 200):
            program = Program({"main": (("a",), (("times", many, (("flip", ("one",), ("a",)),)),))})
            self.assertEqual(len(call_flips(program, "main", [3], limit=many)), many)
            self.fails(TooMany, {"limit": many - 1}, call_flips, program, "main", [3], limit=many - 1)
        program = Program({"main": (("a",), (("times", 201, (("flip", ("one",), ("a",)),)),))})
        self.fails(TooMany, {"limit": 200}, call_flips, program, "main", [3])
        self.fails(TooMany, {"limit": 200}, call_flips, program, "main", [3], limit=200)

    def test_great_counts_of_bodies_without_flips(self):
        flip = ("flip", ("one",), ("a",))
        empty = nested((HUGE,) * 4, ())
        skipped = (("times", 0, (("times", HUGE, (flip,)),)), ("times", HUGE, (("times", 0, (flip,)),)))
        called = ("times", HUGE, (("do", "none", ("a",)),))
        program = Program({"none": (("a",), empty), "main": (("a",), (flip, *empty, *skipped, called, flip))})
        self.assertEqual(call_flips(program, "main", [4]), [Flip([0], [4])] * 2)
        self.assertEqual(call_flips(program, "main", [4], limit=2), [Flip([0], [4])] * 2)

    def test_chains_of_twelve(self):
        program = Program(chain(ROUND))
        self.fails(TooMany, {"limit": 200}, call_flips, program, "v", (1, 2, 3))
        self.assertEqual(len(call_flips(program, "l", (1, 2, 3))), 40)
        silent = Program(chain(((), ())))
        self.assertEqual(call_flips(silent, "v", (), limit=0), [])
        mixed = chain(((), ()))
        mixed["w" * 8] = (("a",), (("do", "u", ()), ("flip", ("one",), ("a",)), ("undo", "u", ())))
        del mixed["v"]
        self.assertEqual(call_flips(Program(mixed), "w" * 8, [39], limit=1), [Flip([0], [39])])

    def test_a_long_chain_of_single_calls(self):
        procedures = chain(COPY, calls=1, step=lambda name, names: nested((1,) * 4, (("undo", name, names[::-1]),))[0])
        self.assertEqual(call_flips(Program(procedures), "v", (1, 2)), [add_flip(2, to=1)])
        self.assertEqual(call_flips(Program(procedures), "u", (1, 2)), [add_flip(1, to=2)])

    def test_errors_for_any_value(self):
        for name in NOT_PROCEDURES:
            for cells, limit in (([1, 2], 200), (None, None), ([0], -1)):
                self.refuses(NoProcedure, "name", name, call_flips, PROGRAM, name, cells, limit=limit)
        wrong = [[0, 1], [1, 0], [1, 1], [1], [], [1, 2, 3], (1, 40), (1, True), [False, 1], [-1, 2], "12", None, 2]
        for cells in NOT_CELLS + wrong:
            for limit in (200, 0, -1, True, None):
                self.refuses(NoCells, "cells", cells, call_flips, PROGRAM, "twice", cells, limit=limit)
        for limit in NOT_INTEGERS + [-1, 201, 10 ** 30, -200]:
            self.refuses(NoCount, "count", limit, call_flips, PROGRAM, "twice", [1, 2], limit=limit)

    def test_no_count_ahead_of_too_many(self):
        program = Program(chain(COPY))
        for limit in (True, False, None, -1, 201):
            self.refuses(NoCount, "count", limit, call_flips, program, "v", [1, 2], limit=limit)

    def test_cells_of_the_greatest_board(self):
        self.assertEqual(call_flips(PROGRAM, "copy", (39, 1)), [add_flip(39, to=1)])
        eight = ("a", "b", "c", "d", "e", "f", "g", "h")
        program = Program({"wide": (eight, (("flip", eight, eight), ("flip", ("one",), eight)))})
        cells = [39, 1, 38, 2, 20, 21, 3, 7]
        self.assertEqual(call_flips(program, "wide", cells), [Flip(cells, cells), Flip([0], cells)])

    def test_arguments_do_not_change(self):
        cells, kept = [2, 1], Program({"copy": COPY, "twice": TWICE})
        for call in (
            lambda: call_flips(PROGRAM, "twice", cells), lambda: call_table(PROGRAM, "twice", cells, size=3),
            lambda: run_call(PROGRAM, "twice", cells, board=Board(3)),
        ):
            first = call()
            self.assertEqual([cells, PROGRAM], [[2, 1], kept])
            self.assertEqual(call(), first)

    def test_the_list_belongs_to_the_caller(self):
        found = call_flips(PROGRAM, "twice", [2, 1])
        found.clear()
        self.assertEqual(len(call_flips(PROGRAM, "twice", [2, 1])), 2)
        cells = [2, 1]
        found = call_flips(PROGRAM, "twice", cells)
        cells[0] = 3
        self.assertEqual([str(flip) for flip in found], ["2>1", "2>1"])

    def test_arguments(self):
        self.takes(call_flips, "program", "name", "cells", "*", ("limit", 200))
        self.assertEqual(call_flips(cells=(1, 2), name="copy", program=PROGRAM, limit=1), [add_flip(1, to=2)])
        with self.assertRaises(TypeError):
            call_flips(PROGRAM, "copy", (1, 2), 200)


class Tables(CheckCase):

    def has_images(self, procedures, name, cells, size):
        """Expect the table of a call to do to all boards of the size what the plain model does."""
        table = call_table(Program(procedures), name, cells, size=size)
        self.assertIs(table.__class__, Table)
        self.assertEqual(table.size(), size)
        for bits in all_bits(size):
            expected = plain_run(procedures, name, cells, bits)
            self.assertEqual([parity_of(bits, table.row(cell)) for cell in range(size)], expected)

    def test_all_boards_of_small_sizes(self):
        chance = chance_for("call table")
        for procedures in some_programs("table", many=60, counts=(0, 1, 2, 3, 7)):
            for name in procedures:
                for size in (1, 2, 3, 4, 5):
                    cells = cells_for(chance, procedures, name, size)
                    if cells is not None:
                        self.has_images(procedures, name, cells, size)

    def test_great_counts(self):
        chance = chance_for("great counts")
        for procedures in some_programs("great", many=40, counts=(0, 1, 2, HUGE, HUGE - 1, 10 ** 18 + 9)):
            for name in procedures:
                for size in (3, 5):
                    cells = cells_for(chance, procedures, name, size)
                    if cells is not None:
                        self.has_images(procedures, name, cells, size)

    def test_the_table_of_the_flips(self):
        chance = chance_for("the table of the flips")
        seen = 0
        for procedures in some_programs("tables and flips", many=60):
            program = Program(procedures)
            for name in procedures:
                for size in (6, 13, 40):
                    cells = cells_for(chance, procedures, name, size)
                    if cells is not None and flip_count(program, name) <= 200:
                        flips = call_flips(program, name, cells)
                        self.assertEqual(call_table(program, name, cells, size=size), table_of(size, flips))
                        seen += 1
        self.assertGreater(seen, 100)

    def test_each_count_of_a_round(self):
        for count in list(range(10)) + [HUGE - 2, HUGE - 1, HUGE]:
            body = (("times", count, (("do", "round", ("a", "b", "c")),)),)
            program = Program({"round": ROUND, "main": (("a", "b", "c"), body)})
            flips = call_flips(program, "round", (2, 4, 1)) * (count % 3)
            self.assertEqual(call_table(program, "main", (2, 4, 1), size=5), table_of(5, flips))

    def test_chains_of_twelve(self):
        procedures = chain(ROUND)
        program = Program(procedures)
        once = table_of(6, call_flips(program, "k", (5, 1, 3)))
        for index, name in enumerate(program.names()):
            expected = identity_table(6)
            for passes in range(20 ** index % 3):
                expected = expected.then(once)
            self.assertEqual(call_table(program, name, (5, 1, 3), size=6), expected)

    def test_chains_of_twelve_with_great_counts(self):
        program = Program(chain(ROUND, step=lambda name, names: nested((HUGE,) * 4, (("do", name, names),))[0]))
        table = call_table(program, "v", (39, 1, 20), size=40)
        # Each procedure does the round as often as 20 times 10 ** 120 passes of the one before it; 10 leaves 1 by 3.
        expected = identity_table(40)
        for passes in range(2 ** 11 % 3):
            expected = expected.then(table_of(40, call_flips(program, "k", (39, 1, 20))))
        self.assertEqual(table, expected)
        self.assertFalse(table.is_identity())

    def test_undone_calls_are_inverse(self):
        parameters = ROUND[0]
        body = (("do", "round", parameters), ("undo", "round", parameters))
        program = Program({"round": ROUND, "back": (parameters, body[1:]), "both": (parameters, body)})
        there = call_table(program, "round", (1, 2, 3), size=4)
        self.assertEqual(call_table(program, "back", (1, 2, 3), size=4), there.inverse())
        self.assertNotEqual(there.inverse(), there)
        self.assertTrue(call_table(program, "both", (3, 1, 2), size=4).is_identity())

    def test_no_parameters(self):
        program = Program({"none": ((), (("flip", ("one",), ()), ("flip", (), ())))})
        for size in (1, 2, 40):
            self.assertTrue(call_table(program, "none", [], size=size).is_identity())
            self.assertTrue(call_table(program, "none", (), size=size).is_identity())

    def test_errors_for_any_value(self):
        for name in NOT_PROCEDURES:
            for cells, size in (([1, 2], 3), (None, 0), ([0], True)):
                self.refuses(NoProcedure, "name", name, call_table, PROGRAM, name, cells, size=size)
        for size in NOT_SIZES:
            for cells in ([1, 2], None, [0, 1], [1]):
                self.refuses(NoSize, "value", size, call_table, PROGRAM, "copy", cells, size=size)
        wrong = [[0, 1], [1, 0], [1, 1], [1], [], [1, 2, 3], (1, True), [False, 1], [-1, 2], "12", None, 2]
        for size in (1, 2, 3, 40):
            for cells in NOT_CELLS + wrong + [(1, size), [size, 2], (size - 1, size)]:
                self.refuses(NoCells, "cells", cells, call_table, PROGRAM, "copy", cells, size=size)

    def test_cells_up_to_the_size(self):
        for size in range(3, 41):
            table = call_table(PROGRAM, "copy", [size - 1, 1], size=size)
            self.assertEqual(table, table_of(size, [add_flip(size - 1, to=1)]))

    def test_arguments(self):
        self.takes(call_table, "program", "name", "cells", "*", "size")
        self.assertEqual(call_table(size=3, cells=(1, 2), name="copy", program=PROGRAM).row(2), (1, 2))
        with self.assertRaises(TypeError):
            call_table(PROGRAM, "copy", (1, 2), 3)


class Runs(CheckCase):

    def test_against_the_plain_model(self):
        chance = chance_for("run call")
        for procedures in some_programs("run", many=40, counts=(0, 1, 2, 5, HUGE)):
            program = Program(procedures)
            for name in procedures:
                for size in (1, 3, 5, 6):
                    cells = cells_for(chance, procedures, name, size)
                    if cells is not None:
                        bits = some_bits(chance, size)
                        found = run_call(program, name, cells, board=board_of(bits))
                        self.assertIs(found.__class__, Board)
                        self.assertEqual(bits_of(found), plain_run(procedures, name, cells, bits))

    def test_flip_by_flip(self):
        chance = chance_for("run flip by flip")
        for procedures in some_programs("one by one"):
            for name in [name for name in procedures if few(procedures, name)]:
                cells = cells_for(chance, procedures, name, 40)
                bits = some_bits(chance, 40)
                found = run_call(Program(procedures), name, cells, board=board_of(bits))
                self.assertEqual(bits_of(found), bits_after(bits, plain_flips(procedures, name, cells)))

    def test_errors_for_any_value(self):
        board = Board(3, up=[1])
        for name in NOT_PROCEDURES:
            for cells in ([1, 2], None, [0]):
                self.refuses(NoProcedure, "name", name, run_call, PROGRAM, name, cells, board=board)
        wrong = [[0, 1], [1, 0], [1, 1], [1], [], [1, 2, 3], (1, True), [False, 1], [-1, 2], (1, 3), [3, 1], "12", None]
        for cells in NOT_CELLS + wrong:
            self.refuses(NoCells, "cells", cells, run_call, PROGRAM, "copy", cells, board=board)
        self.assertEqual(board, Board(3, up=[1]))

    def test_arguments(self):
        self.takes(run_call, "program", "name", "cells", "*", "board")
        found = run_call(board=Board(3, up=[1]), cells=[1, 2], name="copy", program=PROGRAM)
        self.assertEqual(str(found), "111")
        with self.assertRaises(TypeError):
            run_call(PROGRAM, "copy", [1, 2], Board(3))


class Places(CheckCase):

    def test_defined_in_this_file(self):
        for name in ("flip_count", "call_flips", "call_table", "run_call"):
            self.assertEqual(getattr(compiling, name).__module__, "paritycells.compiling")

    def test_strange_programs_are_kept(self):
        kept = copy.deepcopy(PROGRAM)
        call_flips(PROGRAM, "twice", [1, 2]).append(Thing())
        self.assertEqual(PROGRAM, kept)


if __name__ == "__main__":
    unittest.main()
