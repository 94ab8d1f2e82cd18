"""Texts of histories, and their reading line by line."""

import unittest

from checks import CheckCase
from models import SIZES, bits_of, board_of, chance_for, some_bits, some_flip, some_history, switch_entry
from paritycells import historytexts
from paritycells.boards import Board
from paritycells.errors import NoText, TooMany
from paritycells.flips import Flip, add_flip, turn_flip
from paritycells.histories import History
from paritycells.historytexts import history_text, read_history
from strange import NOT_CELLS, NOT_INTEGERS, NOT_LISTS, NOT_STAMPS, Thing

ANN, BOB = (5, "ann", 0), (7, "bob", 0)
START = "start 1100\n"
FIRST = "entry 5 ann 0 1>2 stands 0\n"
SECOND = "entry 7 bob 0 2>3 stands 0\n"
THIRD = "entry 7 bob 1 ->- removed 3\n"
MOST = 10 ** 18
# Each takes the place of the line "entry 7 bob 0 2>3 stands 0", behind one with the stamp (5, "ann", 0), of four cells.
WRONG_ENTRIES = [
    "", " ", "entry", "start 1100", "7 bob 0 2>3 stands 0", "Entry 7 bob 0 2>3 stands 0", "entry 7 bob 0 2>3 stands",
    "entry 7 bob 0 2>3 0", "entry 7 bob 2>3 stands 0", "entry 7 0 2>3 stands 0", "entry bob 0 2>3 stands 0",
    "entry 7 bob 0 stands 0", "entry 7 bob 0 2>3 stands 0 0", "entry entry 7 bob 0 2>3 stands 0",
    "entry  7 bob 0 2>3 stands 0", " entry 7 bob 0 2>3 stands 0", "entry 7 bob 0 2>3 stands 0 ",
    "entry 7 bob  0 2>3 stands 0", "entry 7\tbob 0 2>3 stands 0", "entry 07 bob 0 2>3 stands 0",
    "entry 7 bob 00 2>3 stands 0", "entry 7 bob 01 2>3 stands 0", "entry 7 bob 0 2>3 stands 00",
    "entry 7 bob 0 2>3 removed 01", "entry -7 bob 0 2>3 stands 0", "entry +7 bob 0 2>3 stands 0",
    "entry 7 bob -1 2>3 stands 0", "entry 7 bob 0 2>3 stands -2", "entry 7 bob 0 2>3 stands +0",
    "entry 7.0 bob 0 2>3 stands 0", "entry seven bob 0 2>3 stands 0", "entry 7 bob zero 2>3 stands 0",
    "entry 7 Bob 0 2>3 stands 0", "entry 7 bobbobbob 0 2>3 stands 0", "entry 7 bob1 0 2>3 stands 0",
    "entry 7 b-b 0 2>3 stands 0", f"entry {MOST + 1} bob 0 2>3 stands 0", f"entry 7 bob {MOST + 1} 2>3 stands 0",
    f"entry {10 ** 40} bob 0 2>3 stands 0", f"entry 7 bob {10 ** 40} 2>3 stands 0",
    "entry 7 bob 0 3>3 stands 0", "entry 7 bob 0 2>0 stands 0", "entry 7 bob 0 2,1>3 stands 0",
    "entry 7 bob 0 2>3> stands 0", "entry 7 bob 0 2 stands 0", "entry 7 bob 0 - stands 0",
    "entry 7 bob 0 02>3 stands 0",
    "entry 7 bob 0 4>3 stands 0", "entry 7 bob 0 2>4 stands 0", "entry 7 bob 0 4>- stands 0",
    "entry 7 bob 0 ->39 stands 0",
    "entry 7 bob 0 2>40 stands 0", "entry 7 bob 0 2>3 removed 0", "entry 7 bob 0 2>3 stands 1",
    "entry 7 bob 0 2>3 removed 2", "entry 7 bob 0 2>3 Stands 0", "entry 7 bob 0 2>3 standing 0",
    "entry 7 bob 0 2>3 restored 2", "entry 7 bob 0 2>3 stands 1002", "entry 7 bob 0 2>3 removed 1001",
    f"entry 7 bob 0 2>3 stands {10 ** 40}", "entry 7 bob 0 2>3 stands zero", "entry 5 ann 0 2>3 stands 0",
    "entry 5 ann 0 1>2 stands 0", "entry 4 bob 0 2>3 stands 0", "entry 5 aa 0 2>3 stands 0",
    "entry 0 ann 0 2>3 stands 0",
]
WRONG_STARTS = [
    "", " ", "start", "1100", "start ", "start  1100", " start 1100", "start 1100 ", "Start 1100", "start 0100",
    "start 1102", "start -", "start 1100 1100", "start start 1100", "begin 1100", "start " + "1" * 41, "start 11 00",
    "entry 5 ann 0 1>2 stands 0", "start\t1100", "start1100", "start 0", "start Board(4)",
]
GOOD_ENTRIES = [
    "entry 5 ann 1 ->- stands 0", "entry 5 b 0 0>1 removed 1", "entry 6 a 0 0,1,2,3>1,3 stands 2",
    f"entry {MOST} zzzzzzzz {MOST} 2>3 stands 1000", "entry 7 bob 0 2>3 removed 999", "entry 10 ann 0 1,2>1,2 stands 0",
]


def two_entries():
    """Return the history of the interface's examples."""
    history = History(Board(4, up=[1]))
    history.enter(ANN, add_flip(1, to=2))
    history.enter(BOB, add_flip(2, to=3))
    return history


def changed(many):
    """Return a history whose only entry was changed as many times."""
    history = History(Board(4, up=[1]))
    history.enter(ANN, add_flip(1, to=2))
    for index in range(many):
        switch_entry(history, ANN)
    return history


def plain_text(model):
    """Return the text of the history of a model."""
    text = "start " + "".join(str(bit) for bit in model.bits) + "\n"
    for time, hand, number in sorted(model.rows):
        flip, stands, changes = model.rows[(time, hand, number)]
        text += f"entry {time} {hand} {number} {flip} {'stands' if stands else 'removed'} {changes}\n"
    return text


class TextCase(CheckCase):

    def no_text(self, line, text):
        """Expect NoText with this line."""
        with self.subTest(repr(text)):
            raised = self.fails(NoText, {"line": line}, read_history, text)
            self.assertIs(raised.line.__class__, int)


class Written(TextCase):

    def test_against_the_model(self):
        for size in SIZES:
            history, model = some_history(chance_for("written", size), size, 12)
            before = history.copied()
            self.assertEqual(history_text(history), plain_text(model))
            self.assertEqual(history, before)

    def test_without_entries(self):
        for size in SIZES:
            bits = some_bits(chance_for("without", size), size)
            self.assertEqual(history_text(History(board_of(bits))), "start " + "".join(str(bit) for bit in bits) + "\n")

    def test_in_ascending_order_of_stamps(self):
        history = History(Board(4, up=[1]))
        for stamp in ((10, "ann", 0), (9, "ann", 10), (9, "ann", 9), (9, "al", 11), (MOST, "z", MOST)):
            history.enter(stamp, Flip([], []))
        stamps = [line.split(" ")[1:4] for line in history_text(history).splitlines()[1:]]
        expected = [["9", "al", "11"], ["9", "ann", "9"], ["9", "ann", "10"], ["10", "ann", "0"]]
        self.assertEqual(stamps, expected + [[str(MOST), "z", str(MOST)]])

    def test_states_and_counts(self):
        for many in (0, 1, 2, 3, 10):
            word = "removed" if many % 2 else "stands"
            self.assertEqual(history_text(changed(many)), START + f"entry 5 ann 0 1>2 {word} {many}\n")

    def test_arguments(self):
        self.takes(history_text, "history")
        self.assertEqual(history_text(history=two_entries()), START + FIRST + SECOND)


class ThereAndBack(TextCase):

    def test_each_size(self):
        for size in SIZES:
            history, model = some_history(chance_for("there", size), size, 14)
            text = history_text(history)
            found = read_history(text)
            self.assertIs(found.__class__, History)
            self.assertTrue(found == history)
            self.assertEqual(history_text(found), text)
            self.assertEqual(bits_of(found.board()), model.now())

    def test_300_entries(self):
        history, model = some_history(chance_for("three hundred"), 9, 300)
        found = read_history(history_text(history))
        self.assertTrue(found == history)
        self.assertEqual(len(found), 300)
        self.fails(TooMany, {"limit": 300}, found.enter, (200, "bob", 0), turn_flip(1))

    def test_counts_of_changes(self):
        for many in (0, 1, 2, 3, 9, 10, 99, 100, 500, 998, 999, 1000):
            history = changed(many)
            found = read_history(history_text(history))
            self.assertTrue(found == history)
            self.assertEqual([found.changes(ANN), found.stands(ANN)], [many, many % 2 == 0])

    def test_more_than_1000_changes(self):
        for many in (1001, 1002):
            text = history_text(changed(many))
            self.assertTrue(text.endswith(f" {many}\n"))
            self.no_text(2, text)
            self.no_text(2, text + SECOND)
        history = changed(1000)
        history.enter(BOB, add_flip(2, to=3))
        self.assertTrue(read_history(history_text(history)) == history)
        history.remove(ANN)
        history.enter((1, "eve", 0), turn_flip(3))
        self.no_text(3, history_text(history))

    def test_both_changed_afterwards(self):
        history = two_entries()
        found = read_history(history_text(history))
        history.remove(ANN)
        self.assertTrue(found == two_entries())
        found.remove(BOB)
        found.enter((6, "ann", 0), turn_flip(1))
        self.assertEqual([history.stands(BOB), len(history), len(found)], [True, 2, 3])
        found.restore(BOB)
        self.assertEqual(found.changes(BOB), 2)

    def test_read_twice(self):
        one, other = read_history(START + FIRST), read_history(START + FIRST)
        one.remove(ANN)
        self.assertEqual([other.stands(ANN), other.changes(ANN)], [True, 0])

    def test_removed_entries(self):
        found = read_history(START + FIRST + THIRD)
        self.assertEqual([found.stamps(), found.changes((7, "bob", 1))], [[ANN, (7, "bob", 1)], 3])
        self.assertIs(found.stands((7, "bob", 1)), False)
        self.assertEqual([str(found.start()), str(found.board())], ["1100", "1110"])

    def test_good_lines(self):
        for line in GOOD_ENTRIES:
            text = START + FIRST + line + "\n"
            self.assertEqual(history_text(read_history(text)), text)


class Faults(TextCase):

    def test_the_first_line(self):
        for line in WRONG_STARTS:
            for rest in ("", "\n", "\n" + FIRST, "\n" + FIRST + SECOND, "\nnothing", "\n\n"):
                self.no_text(1, line + rest)

    def test_each_kind_of_fault_on_each_line(self):
        for line in WRONG_ENTRIES:
            self.no_text(3, START + FIRST + line + "\n")
            self.no_text(3, START + FIRST + line + "\n" + THIRD)
            self.no_text(3, START + FIRST + line + "\nnothing\n")
            if line:
                self.no_text(3, START + FIRST + line)
        between = [f"entry 6 ann {number} 1>2 stands 0\n" for number in range(20)]
        for line in WRONG_ENTRIES:
            for many in (1, 5, 20):
                self.no_text(many + 3, START + FIRST + "".join(between[:many]) + line + "\n" + SECOND)

    def test_faults_on_the_second_line(self):
        for line in WRONG_ENTRIES:
            ascending = line.startswith(("entry 5 ann 0", "entry 4 bob", "entry 5 aa", "entry 0 ann"))
            if ascending:
                self.assertEqual(len(read_history(START + line + "\n")), 1)
            else:
                self.no_text(2, START + line + "\n")

    def test_the_last_line_feed_left_out(self):
        for text, line in ((START, 1), (START + FIRST, 2), (START + FIRST + SECOND, 3)):
            read_history(text)
            self.no_text(line, text[:-1])
            self.no_text(line + 1, text + " ")
            self.no_text(line + 1, text + "\n")
            self.no_text(line + 1, text + "entry")
            self.no_text(line + 1, text + text)

    def test_each_beginning(self):
        text = START + FIRST + SECOND
        for end in range(len(text) + 1):
            if text[:end] in (START, START + FIRST, text):
                read_history(text[:end])
            else:
                self.no_text(text[:end].count("\n") + 1, text[:end])

    def test_the_empty_string(self):
        self.no_text(1, "")
        self.no_text(1, "\n")
        self.no_text(1, "\n" + START)

    def test_stamps_that_do_not_ascend(self):
        self.no_text(3, START + SECOND + FIRST)
        self.no_text(3, START + FIRST + FIRST)
        self.no_text(4, START + FIRST + SECOND + FIRST)
        self.no_text(4, START + FIRST + SECOND + SECOND)
        self.no_text(4, START + FIRST + SECOND + "entry 7 bob 0 ->- removed 1\n")
        self.no_text(3, START + "entry 10 ann 0 1>2 stands 0\nentry 9 ann 0 1>2 stands 0\n")
        self.no_text(3, START + "entry 9 ann 10 1>2 stands 0\nentry 9 ann 9 1>2 stands 0\n")

    def test_the_first_fault_decides(self):
        self.no_text(2, START + "nothing\n" + "nothing\n" + SECOND)
        self.no_text(1, "nothing\n" + FIRST + "nothing\n")
        self.no_text(2, START + "entry 5 ann 0 1>9 stands 0\n" + SECOND[:-1])

    def test_one_character_other(self):
        text = START + FIRST + SECOND
        for at in range(len(text)):
            for mark in "x 0\n":
                wrong = text[:at] + mark + text[at + 1:]
                try:
                    found = read_history(wrong)
                except NoText as error:
                    # No text is refused before the line in which it differs.
                    self.assertGreaterEqual(error.line, text[:at].count("\n") + 1)
                    self.assertLessEqual(error.line, wrong.count("\n") + 1)
                else:
                    self.assertEqual(history_text(found), wrong)

    def test_the_301st_entry(self):
        lines = [f"entry {number} ann 0 1>2 stands 0\n" for number in range(303)]
        self.assertEqual(len(read_history(START + "".join(lines[:300]))), 300)
        for many in (301, 302, 303):
            self.no_text(302, START + "".join(lines[:many]))
        self.no_text(302, START + "".join(lines[:300]) + "entry")
        self.no_text(150, START + "".join(lines[:148]) + "\n" + "".join(lines[148:301]))

    def test_a_flip_that_does_not_fit(self):
        for size in (1, 2, 3, 39):
            start = "start " + "1" * size + "\n"
            read_history(start + "entry 5 ann 0 0>- stands 0\n")
            for flip in (f"{size}>-", f"->{size}", f"0>{size}"):
                self.no_text(2, start + f"entry 5 ann 0 {flip} stands 0\n")
            read_history("start " + "1" * (size + 1) + "\n" + f"entry 5 ann 0 0>{size} stands 0\n")

    def test_values_that_are_not_strings(self):
        values = NOT_LISTS + NOT_CELLS + NOT_INTEGERS + NOT_STAMPS
        more = [START.encode(), [START], (START,), {START: 1}, two_entries(), Board(4), Thing()]
        for thing in [value for value in values if not isinstance(value, str)] + more:
            self.no_text(0, thing)

    def test_other_strings(self):
        for text in [value for value in NOT_LISTS + NOT_INTEGERS if isinstance(value, str)]:
            self.no_text(1, text)

    def test_arguments(self):
        self.takes(read_history, "text")
        self.assertTrue(read_history(text=START + FIRST + SECOND) == two_entries())


class Places(CheckCase):

    def test_defined_in_this_file(self):
        for name in ("history_text", "read_history"):
            self.assertEqual(getattr(historytexts, name).__module__, "paritycells.historytexts")

    def test_flips_as_in_their_own_texts(self):
        for flip in [some_flip(chance_for("own texts", index), 40) for index in range(20)]:
            history = History(Board(40))
            history.enter(ANN, flip)
            self.assertIn(f" {flip} ", history_text(history))


if __name__ == "__main__":
    unittest.main()
