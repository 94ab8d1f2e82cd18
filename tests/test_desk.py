"""Desks: commands with their answers, and the errors of commands."""

import itertools
import unittest

from checks import CheckCase
from models import chance_for, some_cells, some_history, switch_entry
from paritycells import desk as desk_file
from paritycells.boards import Board
from paritycells.depth import depth_of
from paritycells.desk import Desk
from paritycells.errors import (
    NoCell, NoCells, NoCommand, NoEntry, NoHistory, NoName, NoStamp, NoTime, Removed, Standing, Taken, TooMany, TooWide,
)
from paritycells.flips import add_flip, turn_flip
from paritycells.histories import History
from paritycells.historytexts import history_text
from paritycells.past import board_at, cells_today, does_matter, flip_today, has_acted
from paritycells.tables import table_of
from strange import NOT_CELLS, NOT_INTEGERS, NOT_LISTS, NOT_STAMPS, Thing

METHODS = ("say", "play", "names", "history", "journal")
ANN, BOB = (5, "ann", 0), (7, "bob", 0)
THIRTY = "9" * 30
# One good command of each kind, for the desk below.
GOOD = [
    "new g 1010", "copy h g", "enter h 6 ann 1 1>3", "remove h 5 ann 0", "restore h 8 cy 2", "board h", "at h 5",
    "today h 5 ann 0", "cells h 1,3 5", "acted h 5 ann 0", "matters h 5 ann 0 3", "depth h", "length h",
]
NOT_STRINGS = [thing for thing in NOT_LISTS + NOT_CELLS + NOT_INTEGERS + NOT_STAMPS if not isinstance(thing, str)]


def busy_desk():
    """Return a desk with a history of three entries, one of them removed."""
    desk = Desk()
    for command in (
        "new h 1100", "enter h 5 ann 0 1>2", "enter h 7 bob 0 2>3", "enter h 8 cy 2 0>1", "remove h 8 cy 2",
    ):
        desk.say(command)
    return desk


def state_of(desk):
    """Return all that a desk tells of itself."""
    return [(name, history_text(desk.history(name))) for name in desk.names()] + desk.journal()


class DeskCase(CheckCase):

    def says(self, desk, command, expected):
        """Expect this answer, a string."""
        found = desk.say(command)
        self.assertEqual(found, expected)
        self.assertIs(found.__class__, str)

    def keeps(self, desk, error, fields, command):
        """Expect an error with these fields, and no change of the desk."""
        before = state_of(desk)
        with self.subTest(repr(command)):
            self.fails(error, fields, desk.say, command)
            self.assertEqual(state_of(desk), before)

    def no_command(self, desk, command):
        """Expect NoCommand with the very value, and no change of the desk."""
        before = state_of(desk)
        with self.subTest(repr(command)):
            with self.assertRaises(NoCommand) as caught:
                desk.say(command)
            self.assertIs(caught.exception.__class__, NoCommand)
            self.assertIs(caught.exception.command, command)
            self.assertEqual(state_of(desk), before)


class Answers(DeskCase):

    def test_a_new_desk(self):
        desk = Desk()
        self.assertEqual([desk.names(), desk.journal()], [[], []])
        self.takes(Desk)

    def test_each_command(self):
        desk = Desk()
        for command, answer in (
            ("new h 1100", "ok"), ("board h", "1100"), ("length h", "0"), ("depth h", "0"), ("at h 0", "1100"),
            ("enter h 5 ann 0 1>2", "ok"), ("enter h 7 bob 0 2>3", "ok"), ("board h", "1111"), ("length h", "2"),
            ("at h 4", "1100"), ("at h 5", "1110"), ("at h 6", "1110"), ("at h 7", "1111"),
            ("today h 5 ann 0", "1>2,3"), ("today h 7 bob 0", "2>3"), ("cells h 3 5", "2,3"), ("cells h - 0", "-"),
            ("cells h 0 0", "0"), ("acted h 5 ann 0", "yes"), ("acted h 7 bob 0", "yes"),
            ("matters h 5 ann 0 3", "yes"), ("matters h 5 ann 0 1", "no"), ("depth h", "2"),
            ("remove h 5 ann 0", "ok"), ("board h", "1100"), ("acted h 7 bob 0", "no"), ("depth h", "1"),
            ("length h", "2"), ("restore h 5 ann 0", "ok"), ("board h", "1111"), ("copy h g", "ok"),
            ("enter g 9 ann 0 ->-", "ok"), ("length g", "3"), ("length h", "2"), ("new h 1", "ok"), ("board h", "1"),
            ("board g", "1111"), ("today g 9 ann 0", "->-"), ("acted g 9 ann 0", "no"),
        ):
            self.says(desk, command, answer)
        self.assertEqual(desk.names(), ["g", "h"])

    def test_against_the_functions(self):
        chance = chance_for("desk")
        for size in (1, 2, 4, 11, 40):
            history, model = some_history(chance, size, 12)
            desk = Desk()
            desk.say(f"new one {history.start()}")
            for stamp in chance.sample(history.stamps(), len(history)):
                words = " ".join(str(part) for part in stamp)
                self.says(desk, f"enter one {words} {history.flip(stamp)}", "ok")
                for index in range(history.changes(stamp)):
                    self.says(desk, f"{'restore' if index % 2 else 'remove'} one {words}", "ok")
            self.assertTrue(desk.history("one") == history)
            self.tells(desk, history, chance)

    def tells(self, desk, history, chance):
        """Expect the answers of all commands that ask for something."""
        size = history.start().size()
        flips = [history.flip(stamp) for stamp in history.stamps() if history.stands(stamp)]
        self.says(desk, "board one", str(history.board()))
        self.says(desk, "length one", str(len(history)))
        self.says(desk, "depth one", str(depth_of(table_of(size, flips))))
        for time in (0, 3, 4, 7, 10 ** 18):
            self.says(desk, f"at one {time}", str(board_at(history, time=time)))
            cells = some_cells(chance, size)
            text = ",".join(str(cell) for cell in cells) or "-"
            expected = ",".join(str(cell) for cell in cells_today(history, cells, time=time)) or "-"
            self.says(desk, f"cells one {text} {time}", expected)
        for stamp in history.stamps():
            words, cell = " ".join(str(part) for part in stamp), chance.randrange(size)
            self.says(desk, f"today one {words}", str(flip_today(history, stamp)))
            self.says(desk, f"acted one {words}", "yes" if has_acted(history, stamp) else "no")
            matters = does_matter(history, stamp, cell=cell)
            self.says(desk, f"matters one {words} {cell}", "yes" if matters else "no")

    def test_new_in_the_place_of_an_older_one(self):
        desk = busy_desk()
        self.says(desk, "new h 10", "ok")
        self.assertEqual([desk.say("board h"), desk.say("length h"), desk.names()], ["10", "0", ["h"]])

    def test_copy_in_the_place_of_an_older_one(self):
        desk = busy_desk()
        desk.say("new g 10")
        self.says(desk, "copy h g", "ok")
        self.assertTrue(desk.history("g") == desk.history("h"))
        desk.say("remove g 5 ann 0")
        desk.say("enter g 1 ann 0 0>3")
        self.assertEqual([desk.say("length h"), desk.say("length g")], ["3", "4"])
        self.assertTrue(desk.history("h").stands(ANN))
        desk.say("new h 1")
        self.says(desk, "length g", "4")

    def test_copy_under_its_own_name(self):
        desk = busy_desk()
        before = state_of(desk)
        self.says(desk, "copy h h", "ok")
        self.assertEqual(state_of(desk), before)

    def test_histories_share_no_state(self):
        desk, other = busy_desk(), busy_desk()
        desk.say("remove h 5 ann 0")
        desk.say("new x 1")
        self.assertEqual([other.names(), other.say("board h")], [["h"], "1111"])

    def test_boards_of_all_sizes(self):
        desk = Desk()
        for size in range(1, 41):
            self.says(desk, f"new h {'1' * size}", "ok")
            self.says(desk, "board h", "1" * size)

    def test_repeated_commands(self):
        desk = busy_desk()
        for command in GOOD[5:]:
            self.assertEqual(desk.say(command), desk.say(command))

    def test_arguments(self):
        desk = Desk()
        self.takes(desk.say, "command")
        self.takes(desk.play, "commands")
        self.takes(desk.history, "name")
        for call in (desk.names, desk.journal):
            self.takes(call)
        self.assertEqual(desk.say(command="new h 1100"), "ok")
        self.assertEqual(str(desk.history(name="h").start()), "1100")


class NotCommands(DeskCase):

    def test_values_that_are_not_strings(self):
        desk = busy_desk()
        for thing in NOT_STRINGS + [b"board h", ["board h"], ("board h",), ["board", "h"], Board(4), Thing()]:
            self.no_command(desk, thing)

    def test_the_good_ones(self):
        for command in GOOD:
            busy_desk().say(command)

    def test_words_left_out_put_in_and_twice(self):
        for command in GOOD:
            words = command.split(" ")
            for at in range(len(words)):
                self.no_command(busy_desk(), " ".join(words[:at] + words[at + 1:]))
                self.no_command(busy_desk(), " ".join(words[:at + 1] + words[at:]))
                self.no_command(busy_desk(), " ".join(words[:at + 1] + ["h"] + words[at + 1:]))
            self.no_command(busy_desk(), command + " 1")
            self.no_command(busy_desk(), command + " " + command)

    def test_another_first_word(self):
        for command in GOOD:
            rest = command.partition(" ")[2]
            for word in ("", "New", "NEW", "news", "ne", "delete", "h", "0", "->-", "say", "boards", "Board", "_"):
                self.no_command(busy_desk(), f"{word} {rest}")
        for command in ("", " ", "h", "new", "board", "x y z", "\n", "-"):
            self.no_command(busy_desk(), command)

    def test_spaces_and_line_feeds(self):
        for command in GOOD:
            words = command.split(" ")
            for at in range(1, len(words)):
                for gap in ("  ", "\n", " \n", "\n ", "\t", ""):
                    wrong = " ".join(words[:at]) + gap + " ".join(words[at:])
                    self.no_command(busy_desk(), wrong)
            for wrong in (" " + command, command + " ", command + "\n", "\n" + command, command + " \n"):
                self.no_command(busy_desk(), wrong)

    def test_a_word_left_out_between_its_spaces(self):
        for command in GOOD:
            words = command.split(" ")
            for at in range(len(words)):
                self.no_command(busy_desk(), " ".join(words[:at] + [""] + words[at + 1:]))

    def test_numbers(self):
        wrong = [
            "00", "05", "-5", "+5", "-0", "5.0", "5e0", "0x5", "5_0", "five", "", "1" * 31, "9" * 31, "0" * 31, "-",
            "5,7", "1" + "0" * 30,
        ]
        for number in wrong:
            for command in (
                f"enter h {number} ann 1 1>3", f"enter h 6 ann {number} 1>3", f"remove h {number} ann 0",
                f"remove h 5 ann {number}", f"restore h {number} cy 2", f"restore h 8 cy {number}", f"at h {number}",
                f"today h {number} ann 0", f"today h 5 ann {number}", f"cells h 1,3 {number}",
                f"acted h {number} ann 0", f"acted h 5 ann {number}", f"matters h {number} ann 0 3",
                f"matters h 5 ann {number} 3", f"matters h 5 ann 0 {number}",
            ):
                self.no_command(busy_desk(), command)

    def test_flips_cells_and_boards(self):
        desk = busy_desk()
        for text in ("1", "1>", ">2", "-", "1>0", "1>1", "2,1>3", "01>2", "40>1", "1>40", "1>2>3", "one>2", "1,2>2"):
            self.no_command(desk, f"enter h 6 ann 1 {text}")
        for text in ("3,1", "1,1", "01", "40", "1,", ",1", "--", "1>2", "a", "1,2,40", "-1"):
            self.no_command(desk, f"cells h {text} 5")
        for text in ("0", "01", "0100", "12", "1" * 41, "-", "a", "1,1", "Board"):
            self.no_command(desk, f"new g {text}")

    def test_also_if_the_name_is_not_kept_or_no_name(self):
        desk = busy_desk()
        for name in ("x", "X", "abcdefghi", "1", "->-"):
            for command in (
                f"enter {name} 05 ann 1 1>3", f"enter {name} 6 ann 1 1>0", f"at {name} -1", f"cells {name} 3,1 5",
                f"board {name} {name}", f"new {name} 0100", f"new {name}", f"copy {name}", f"copy h {name} x",
                f"matters {name} 5 ann 0 x", f"length {name} ",
            ):
                self.no_command(desk, command)


class Errors(DeskCase):

    def test_no_name(self):
        desk = busy_desk()
        for name in ("H", "h1", "abcdefghi", "1", "-", "->-", "h,g", "h_g", "~", "!", "1100", "new!"):
            self.keeps(desk, NoName, {"name": name}, f"new {name} 1100")
            self.keeps(desk, NoName, {"name": name}, f"copy h {name}")
            self.keeps(desk, NoName, {"name": name}, f"copy x {name}")
            self.keeps(desk, NoName, {"name": name}, f"copy X {name}")
        for name in ("new", "one", "abcdefgh", "z"):
            self.says(desk, f"new {name} 1100", "ok")

    def test_no_history(self):
        desk = busy_desk()
        for name in ("x", "H", "hh", "abcdefghi", "1", "-", "~", "board"):
            for command in GOOD[1:]:
                words = command.split(" ")
                self.keeps(desk, NoHistory, {"name": name}, " ".join([words[0], name] + words[2:]))

    def test_no_history_ahead_of_the_functions(self):
        desk = busy_desk()
        for command in (
            f"enter x {THIRTY} Ann 0 1>39", "remove x 1 eve 0", "restore x 5 ann 0", f"at x {THIRTY}",
            "today x 1 eve 0", "cells x 39 5", "acted x 1 eve 0", "matters x 1 eve 0 39",
        ):
            self.keeps(desk, NoHistory, {"name": "x"}, command)

    def test_enter(self):
        desk = busy_desk()
        wide = "39>1"
        great = 10 ** 18 + 1
        for stamp in ((great, "ann", 0), (5, "Ann", 0), (5, "abcdefghi", 0), (5, "ann", great), (5, "-", 0)):
            words = " ".join(str(part) for part in stamp)
            for flip in ("1>2", wide):
                self.keeps(desk, NoStamp, {"stamp": stamp}, f"enter h {words} {flip}")
        self.keeps(desk, NoStamp, {"stamp": (int(THIRTY), "ann", 0)}, f"enter h {THIRTY} ann 0 1>2")
        self.keeps(desk, TooWide, {"needed": 40}, f"enter h 5 ann 0 {wide}")
        self.keeps(desk, TooWide, {"needed": 5}, "enter h 6 ann 0 ->4")
        self.keeps(desk, Taken, {"stamp": ANN}, "enter h 5 ann 0 1>3")

    def test_300_entries_and_one_more(self):
        desk = Desk()
        desk.say("new h 11")
        for number in range(300):
            desk.say(f"enter h 5 ann {number} 0>1")
        self.keeps(desk, TooMany, {"limit": 300}, "enter h 5 ann 300 0>1")
        self.keeps(desk, Taken, {"stamp": (5, "ann", 7)}, "enter h 5 ann 7 0>1")
        self.says(desk, "length h", "300")

    def test_stamps_without_an_entry(self):
        desk = busy_desk()
        for stamp in ((5, "ann", 1), (5, "Ann", 0), (6, "ann", 0), (int(THIRTY), "ann", 0), (5, "~", 0), (0, "h", 0)):
            words = " ".join(str(part) for part in stamp)
            for command in (f"remove h {words}", f"restore h {words}", f"today h {words}", f"acted h {words}"):
                self.keeps(desk, NoEntry, {"stamp": stamp}, command)
            for cell in ("1", "4", THIRTY):
                self.keeps(desk, NoEntry, {"stamp": stamp}, f"matters h {words} {cell}")

    def test_removed_and_standing(self):
        desk = busy_desk()
        self.keeps(desk, Standing, {"stamp": ANN}, "restore h 5 ann 0")
        self.keeps(desk, Removed, {"stamp": (8, "cy", 2)}, "remove h 8 cy 2")

    def test_times_and_cells(self):
        desk = busy_desk()
        for time in (10 ** 18 + 1, int(THIRTY)):
            self.keeps(desk, NoTime, {"time": time}, f"at h {time}")
            self.keeps(desk, NoTime, {"time": time}, f"cells h 1,3 {time}")
            self.keeps(desk, NoCells, {"cells": (1, 4)}, f"cells h 1,4 {time}")
        self.keeps(desk, NoCells, {"cells": (39,)}, "cells h 39 5")
        for cell in (4, 39, 40, int(THIRTY)):
            self.keeps(desk, NoCell, {"cell": cell}, f"matters h 5 ann 0 {cell}")
        self.says(desk, f"at h {10 ** 18}", "1111")


class Kept(DeskCase):

    def test_names_are_sorted(self):
        desk = Desk()
        for names in itertools.permutations(["b", "a", "ab"]):
            for name in names:
                desk.say(f"new {name} 1")
            self.assertEqual(desk.names(), ["a", "ab", "b"])
        desk.say("copy a aa")
        self.assertEqual(desk.names(), ["a", "aa", "ab", "b"])

    def test_the_names_belong_to_the_caller(self):
        desk = busy_desk()
        desk.names().append("x")
        self.assertEqual(desk.names(), ["h"])

    def test_a_history_is_an_independent_copy(self):
        desk = busy_desk()
        history = desk.history("h")
        self.assertIs(history.__class__, History)
        history.remove(ANN)
        history.enter((1, "eve", 0), turn_flip(1))
        self.assertEqual([desk.say("board h"), desk.say("length h")], ["1111", "3"])
        other = desk.history("h")
        desk.say("remove h 7 bob 0")
        switch_entry(other, ANN)
        self.assertEqual([other.stands(BOB), desk.history("h").stands(ANN)], [True, True])
        self.assertEqual(desk.history("h").flip(ANN), add_flip(1, to=2))

    def test_no_history_for_any_value(self):
        desk = busy_desk()
        for name in NOT_STRINGS + ["", "x", "H", "h ", " h", "hh", "h\n", "abcdefghi", "new h 1100"]:
            with self.subTest(repr(name)):
                with self.assertRaises(NoHistory) as caught:
                    desk.history(name)
                self.assertIs(caught.exception.__class__, NoHistory)
                self.assertIs(caught.exception.name, name)

    def test_say_adds_nothing_to_the_journal(self):
        desk = busy_desk()
        for command in GOOD + ["nothing", "board x"]:
            try:
                desk.say(command)
            except (NoCommand, NoHistory):
                pass
        self.assertEqual(desk.journal(), [])


class Places(DeskCase):

    def test_defined_in_this_file_and_class(self):
        self.assertEqual(desk_file.Desk.__module__, "paritycells.desk")
        for name in METHODS:
            self.assertIn(name, vars(Desk))


if __name__ == "__main__":
    unittest.main()
