"""Texts of cells, flips and boards, and their reading."""

import itertools
import unittest

from checks import CheckCase, subsets
from models import SIZES, all_bits, all_flips, board_of, chance_for, some_bits, some_cells, some_flip
from paritycells import texts
from paritycells.boards import Board
from paritycells.errors import NoCells, NoText
from paritycells.flips import Flip, add_flip, swap_flip, turn_flip
from paritycells.texts import board_text, cells_text, flip_text, read_board, read_cells, read_flip
from strange import NOT_CELLS, NOT_INTEGERS, NOT_LISTS, NOT_STAMPS, Thing

READERS = (read_cells, read_flip, read_board)
# Each is put in, and in the place of another character.
SPOILERS = "0129 ,->\n.+_;axA~!\"%"
NOT_STRINGS = [thing for thing in NOT_LISTS + NOT_CELLS + NOT_INTEGERS + NOT_STAMPS if not isinstance(thing, str)]


def plain_cells(cells):
    """Return the text of cells, as the document writes it."""
    return ",".join(str(cell) for cell in sorted(cells)) or "-"


def plain_flip(flip):
    return plain_cells(flip.tested()) + ">" + plain_cells(flip.toggled())


def spoilt(text):
    """Return all texts with one character more, fewer or other."""
    found = [text[:at] + text[at + 1:] for at in range(len(text))]
    found += [text[:at] + mark + text[at:] for at in range(len(text) + 1) for mark in SPOILERS]
    found += [text[:at] + mark + text[at + 1:] for at in range(len(text)) for mark in SPOILERS]
    return [each for each in found if each != text]


class TextCase(CheckCase):

    def no_text(self, call, text):
        """Expect NoText(0)."""
        with self.subTest(repr(text)):
            raised = self.fails(NoText, {"line": 0}, call, text)
            self.assertIs(raised.line.__class__, int)

    def reads(self, call, text, written):
        """Expect a text exactly if it is among those that are written so, and the thing that is written so."""
        if text in written:
            self.assertEqual(call(text), written[text])
        else:
            self.no_text(call, text)

    def test_values_that_are_not_strings(self):
        for call in READERS:
            for thing in NOT_STRINGS + [b"1", b"1,3", b"1>2", (1, 3), Board(3), turn_flip(1), Thing(), ["1010"]]:
                self.no_text(call, thing)

    def test_the_empty_text(self):
        for call in READERS:
            self.no_text(call, "")
            self.no_text(call, " ")
            self.no_text(call, "\n")


class Cells(TextCase):

    def test_there_and_back(self):
        for size in SIZES:
            chance = chance_for("cells", size)
            for cells in ([], [size - 1], list(range(size)), some_cells(chance, size), some_cells(chance, size)):
                chance.shuffle(cells)
                text = cells_text(cells)
                self.assertEqual(text, plain_cells(cells))
                self.assertEqual(cells_text(tuple(cells)), text)
                self.assertEqual(read_cells(text), tuple(sorted(cells)))
                self.assertIs(read_cells(text).__class__, tuple)
                self.assertEqual({cell.__class__ for cell in read_cells(text)} | {int}, {int})

    def test_examples(self):
        self.assertEqual([cells_text([]), cells_text(()), cells_text([0]), cells_text([3, 1])], ["-", "-", "0", "1,3"])
        self.assertEqual([read_cells("-"), read_cells("0"), read_cells("9,10,39")], [(), (0,), (9, 10, 39)])

    def test_all_small_texts(self):
        written = {plain_cells(cells): cells for cells in subsets([0, 1, 2, 10, 11, 12, 20, 21, 22])}
        for many in range(5):
            for letters in itertools.product("012,- ", repeat=many):
                self.reads(read_cells, "".join(letters), written)

    def test_spoilt(self):
        for text in ("-", "0", "1,3", "2,10,39", "0,1,2"):
            read_cells(text)
            for wrong in spoilt(text):
                try:
                    found = read_cells(wrong)
                except NoText as error:
                    self.assertEqual(error.line, 0)
                else:
                    self.assertEqual(plain_cells(found), wrong)
                    self.assertTrue(all(0 <= cell < 40 for cell in found) and len(set(found)) == len(found))

    def test_wrong_texts(self):
        for text in (
            "01", "1,03", "00", "0,00", "3,1", "1,1", "0,0", "1,2,1", "40", "1,40", "39,40", "99", "100", "1,2,", ",1",
            ",", "1,,2", "1, 2", " 1", "1 ", "--", "-,1", "1,-", "-1", "+1", "1.0", "1;2", "one", "1\n", "\n1", "1>2",
            "()", "(1,3)", "[1]", "0x1", "1_0", "1e1", "9" * 30, "1" * 60, "--1", "0-", "-0",
        ):
            self.no_text(read_cells, text)

    def test_no_cells(self):
        for cells in NOT_CELLS:
            with self.subTest(repr(cells)):
                self.refuses(NoCells, "cells", cells, cells_text, cells)
        for cells in ([40], [1, 1], [True], "1,3", None):
            self.refuses(NoCells, "cells", cells, cells_text, cells)

    def test_the_argument_does_not_change(self):
        cells = [3, 1]
        cells_text(cells)
        self.assertEqual(cells, [3, 1])

    def test_arguments(self):
        self.takes(cells_text, "cells")
        self.takes(read_cells, "text")
        self.assertEqual([cells_text(cells=[3, 1]), read_cells(text="1,3")], ["1,3", (1, 3)])


class Flips(TextCase):

    def test_there_and_back(self):
        for size in SIZES:
            chance = chance_for("flips", size)
            for index in range(10):
                flip = some_flip(chance, size)
                self.assertEqual(flip_text(flip), plain_flip(flip))
                self.assertEqual(str(flip), flip_text(flip))
                self.assertEqual(read_flip(flip_text(flip)), flip)
                self.assertIs(read_flip(flip_text(flip)).__class__, Flip)

    def test_all_flips_of_small_sizes(self):
        for flip in all_flips(4):
            self.assertEqual(flip_text(flip), plain_flip(flip))
            self.assertEqual(read_flip(plain_flip(flip)), flip)

    def test_examples(self):
        flips = [Flip([3, 1], [2]), turn_flip(5), Flip([], []), Flip([2], []), Flip([], [2]), swap_flip(2, 1)]
        expected = ["1,3>2", "0>5", "->-", "2>-", "->2", "1,2>1,2"]
        self.assertEqual([flip_text(flip) for flip in flips], expected)
        self.assertEqual([read_flip(text) for text in expected], flips)

    def test_all_small_texts(self):
        written = {plain_flip(flip): flip for flip in all_flips(3)}
        for many in range(1, 6):
            for letters in itertools.product("012,->", repeat=many):
                text = "".join(letters)
                # Numbers of two digits are cells, too, but not of these flips.
                if not any(pair in text for pair in ("10", "11", "12", "20", "21", "22")):
                    self.reads(read_flip, text, written)

    def test_spoilt(self):
        for text in ("->-", "0>5", "1,3>2", "1,2>1,2", "10,39>1"):
            read_flip(text)
            for wrong in spoilt(text):
                try:
                    found = read_flip(wrong)
                except NoText as error:
                    self.assertEqual(error.line, 0)
                else:
                    self.assertEqual(plain_flip(found), wrong)

    def test_a_flip_that_cannot_be_made(self):
        for text in (
            "1>0", "->0", "1>0,2", "0>0", "1>1", "1,2>2", "1,2>2,3", "1,2,3>1,2,3", "0,1>1", "40>1", "1>40", "01>2",
            "1>02", "2,1>3", "1>3,2", "1,1>2", "1>2,2",
        ):
            self.no_text(read_flip, text)

    def test_wrong_texts(self):
        for text in (
            ">", "1>", ">2", "1", "-", "1>2>3", "1>>2", "1<2", "1 > 2", "1> 2", " 1>2", "1>2 ", "1>2\n", "1-2", "1,>2",
            "1>2,", "->--", "1>-2", "Flip(tested=[1], toggled=[2])", "one>2", "->->-", "1=>2",
        ):
            self.no_text(read_flip, text)

    def test_arguments(self):
        self.takes(flip_text, "flip")
        self.takes(read_flip, "text")
        self.assertEqual([flip_text(flip=add_flip(1, to=2)), read_flip(text="1>2")], ["1>2", add_flip(1, to=2)])


class Boards(TextCase):

    def test_there_and_back(self):
        for size in SIZES:
            chance = chance_for("boards", size)
            for index in range(6):
                bits = some_bits(chance, size)
                board, text = board_of(bits), "".join(str(bit) for bit in bits)
                self.assertEqual([board_text(board), str(board)], [text, text])
                self.assertEqual(read_board(text), board)
                self.assertIs(read_board(text).__class__, Board)

    def test_all_small_texts(self):
        written = {"".join(str(bit) for bit in bits): board_of(bits) for size in range(1, 6) for bits in all_bits(size)}
        for many in range(6):
            for letters in itertools.product("01 2", repeat=many):
                self.reads(read_board, "".join(letters), written)

    def test_spoilt(self):
        for text in ("1", "10", "1010", "1" * 40, "1" + "0" * 39):
            read_board(text)
            for wrong in spoilt(text):
                if set(wrong) <= {"0", "1"} and wrong[:1] == "1" and len(wrong) <= 40:
                    self.assertEqual(str(read_board(wrong)), wrong)
                else:
                    self.no_text(read_board, wrong)

    def test_wrong_texts(self):
        for text in (
            "0", "00", "01", "0100", "1" * 41, "1" + "0" * 40, "1" * 200, "12", "1a", "1 0", "1-0", "-", "1010\n",
            "\n1010", "Board(4, up=[0, 2])", "1.0", "+1", "1_0", "one", "0b10",
        ):
            self.no_text(read_board, text)

    def test_ends(self):
        self.assertEqual(read_board("1"), Board(1))
        self.assertEqual(read_board("1" * 40), Board(40, up=list(range(40))))
        self.assertEqual(read_board("1" + "0" * 38 + "1"), Board(40, up=[39]))

    def test_arguments(self):
        self.takes(board_text, "board")
        self.takes(read_board, "text")
        self.assertEqual([board_text(board=Board(4, up=[2])), read_board(text="1010")], ["1010", Board(4, up=[2])])


class Places(CheckCase):

    def test_defined_in_this_file(self):
        for name in ("cells_text", "flip_text", "board_text", "read_cells", "read_flip", "read_board"):
            self.assertEqual(getattr(texts, name).__module__, "paritycells.texts")


if __name__ == "__main__":
    unittest.main()
