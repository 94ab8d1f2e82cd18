"""Plays of a desk: all commands or none, and the journal."""

import unittest

from checks import CheckCase
from paritycells.desk import Desk
from paritycells.errors import (
    Halted, NoCell, NoCells, NoCommand, NoEntry, NoHistory, NoName, NoStamp, NoTime, Removed, Standing, Taken, TooMany,
    TooWide,
)
from paritycells.historytexts import history_text
from strange import NOT_LISTS, Thing, knotted

BUSY = [
    "new h 1100", "enter h 5 ann 0 1>2", "enter h 7 bob 0 2>3", "enter h 8 cy 2 0>1", "remove h 8 cy 2", "copy h g",
    "enter g 1 ann 0 0>3",
]
# Each changes something that a later error has to take back.
CHANGES = [
    "new h 10", "new x 111", "copy h x", "copy g h", "enter h 6 ann 1 1>3", "enter g 6 ann 1 1>3", "remove h 5 ann 0",
    "restore h 8 cy 2", "copy h h",
]
# A command that raises, whatever changed before, with its error and the fields of it.
BAD = [
    ("nothing", NoCommand, {"command": "nothing"}), ("board  h", NoCommand, {"command": "board  h"}),
    ("new X 1", NoName, {"name": "X"}), ("copy h X", NoName, {"name": "X"}), ("board y", NoHistory, {"name": "y"}),
    ("enter g 5 Ann 0 1>2", NoStamp, {"stamp": (5, "Ann", 0)}), ("enter g 9 ann 0 0>4", TooWide, {"needed": 5}),
    ("enter g 5 ann 0 1>3", Taken, {"stamp": (5, "ann", 0)}), ("remove g 5 ann 9", NoEntry, {"stamp": (5, "ann", 9)}),
    ("remove g 8 cy 2", Removed, {"stamp": (8, "cy", 2)}), ("restore g 5 ann 0", Standing, {"stamp": (5, "ann", 0)}),
    (f"at g {10 ** 18 + 1}", NoTime, {"time": 10 ** 18 + 1}), ("cells g 4 5", NoCells, {"cells": (4,)}),
    ("matters g 5 ann 0 4", NoCell, {"cell": 4}),
]


def busy_desk():
    """Return a desk with two histories and an empty journal."""
    desk = Desk()
    for command in BUSY:
        desk.say(command)
    return desk


def kept_by(desk):
    """Return the names and the texts of all histories of a desk."""
    return [(name, history_text(desk.history(name))) for name in desk.names()]


class PlayCase(CheckCase):

    def halts(self, desk, commands, index, answers):
        """Expect Halted with these fields, all histories as before, and return the error that it is raised from."""
        before, journal = kept_by(desk), desk.journal()
        copied = list(commands)
        raised = self.fails(Halted, {"index": index, "answers": answers}, desk.play, commands)
        self.assertIs(raised.answers.__class__, list)
        self.assertEqual(kept_by(desk), before)
        self.assertEqual(desk.journal(), journal + [("begin", len(copied)), ("end", index)])
        self.assertEqual(list(commands), copied)
        self.assertIsNotNone(raised.__cause__)
        return raised.__cause__

    def is_error(self, found, error, fields):
        """Expect exactly this error with these fields."""
        self.assertIs(found.__class__, error)
        self.assertEqual(vars(found), fields)


class Answers(PlayCase):

    def test_the_answers_are_those_of_say(self):
        asked = ["board h", "at h 5", "today h 5 ann 0", "cells h 3 5", "acted h 5 ann 0", "matters h 5 ann 0 1"]
        commands = BUSY + asked + ["depth h", "length g", "new h 1", "board h", "board g"]
        one, other = Desk(), Desk()
        found = one.play(commands)
        self.assertIs(found.__class__, list)
        self.assertEqual(found, [other.say(command) for command in commands])
        self.assertEqual(kept_by(one), kept_by(other))
        self.assertEqual(found[len(BUSY):], ["1111", "1110", "1>2,3", "2,3", "yes", "no", "2", "4", "ok", "1", "1110"])

    def test_each_command_sees_what_those_before_it_did(self):
        commands = ["new h 11", "enter h 1 a 0 0>1", "board h", "remove h 1 a 0", "board h", "copy h g", "length g"]
        self.assertEqual(Desk().play(commands), ["ok", "ok", "10", "ok", "11", "ok", "1"])

    def test_a_tuple_of_commands(self):
        desk = Desk()
        self.assertEqual(desk.play(("new h 1100", "board h")), ["ok", "1100"])
        self.assertEqual(desk.journal(), [("begin", 2), ("end", 2)])
        self.is_error(self.halts(desk, ("new g 1", "board x"), 1, ["ok"]), NoHistory, {"name": "x"})

    def test_an_empty_list(self):
        for commands in ([], ()):
            desk = busy_desk()
            before = kept_by(desk)
            self.assertEqual(desk.play(commands), [])
            self.assertEqual(kept_by(desk), before)
            self.assertEqual(desk.journal(), [("begin", 0), ("end", 0)])

    def test_the_list_does_not_change(self):
        commands = ["new h 1100", "board h"]
        Desk().play(commands)
        self.assertEqual(commands, ["new h 1100", "board h"])

    def test_four_hundred_commands(self):
        desk = Desk()
        commands = ["new h 11", "enter h 1 a 0 0>1", "remove h 1 a 0"] + ["restore h 1 a 0", "remove h 1 a 0"] * 198
        self.assertEqual(desk.play(commands), ["ok"] * 399)
        self.assertEqual(desk.history("h").changes((1, "a", 0)), 397)

    def test_arguments(self):
        self.assertEqual(Desk().play(commands=["new h 1100"]), ["ok"])


class Refused(PlayCase):

    def test_each_error_after_each_change(self):
        for command, error, fields in BAD:
            self.is_error(self.halts(busy_desk(), [command], 0, []), error, fields)
            for change in ("enter h 6 ann 1 1>3", "new x 111", "remove h 5 ann 0", "copy h x"):
                found = self.halts(busy_desk(), ["board h", change, command, "board g"], 2, ["1111", "ok"])
                self.is_error(found, error, fields)

    def test_all_changes_are_taken_back(self):
        for change in CHANGES:
            self.halts(busy_desk(), [change, "board y"], 1, ["ok"])
        many = ["enter h 6 ann 1 1>3", "remove h 5 ann 0", "new x 111", "copy h y", "remove y 7 bob 0", "new h 1"]
        found = self.halts(busy_desk(), many + ["remove h 5 ann 0"], 6, ["ok"] * 6)
        self.is_error(found, NoEntry, {"stamp": (5, "ann", 0)})

    def test_commands_after_the_error_are_not_done(self):
        desk = busy_desk()
        self.halts(desk, ["board y", "new y 1", "new z 1"], 0, [])
        self.assertEqual(desk.names(), ["g", "h"])

    def test_a_new_desk_keeps_nothing(self):
        desk = Desk()
        self.halts(desk, ["new h 1100", "new g 1", "board x"], 2, ["ok", "ok"])
        self.assertEqual(desk.names(), [])
        self.fails(NoHistory, {"name": "h"}, desk.say, "board h")

    def test_the_first_error_decides(self):
        found = self.halts(busy_desk(), ["board h", "board y", "nothing", "new X 1"], 1, ["1111"])
        self.is_error(found, NoHistory, {"name": "y"})

    def test_items_that_are_not_strings(self):
        for thing in NOT_LISTS + [["board h"], ("board h",), b"board h", [], (), knotted(), Thing()]:
            if not isinstance(thing, str):
                found = self.halts(busy_desk(), ["new h 1", thing], 1, ["ok"])
                self.assertIs(found.__class__, NoCommand)
                self.assertIs(found.command, thing)

    def test_too_many_entries(self):
        desk = Desk()
        desk.play(["new h 11"] + [f"enter h 5 ann {number} 0>1" for number in range(299)])
        commands = ["enter h 5 ann 299 0>1", "enter h 5 ann 300 0>1"]
        self.is_error(self.halts(desk, commands, 1, ["ok"]), TooMany, {"limit": 300})
        self.assertEqual(desk.say("length h"), "299")

    def test_copies_that_were_handed_out_do_not_change(self):
        desk = busy_desk()
        history = desk.history("h")
        before = history_text(history)
        self.halts(desk, ["remove h 5 ann 0", "board y"], 1, ["ok"])
        self.assertEqual(history_text(history), before)

    def test_the_desk_goes_on(self):
        desk = busy_desk()
        self.halts(desk, ["remove h 5 ann 0", "board y"], 1, ["ok"])
        self.assertEqual(desk.play(["remove h 5 ann 0", "board h"]), ["ok", "1100"])
        self.halts(desk, ["restore h 5 ann 0", "board y"], 1, ["ok"])
        self.assertEqual([desk.say("board h"), desk.history("h").changes((5, "ann", 0))], ["1100", 1])
        self.assertEqual(desk.say("board g"), "1110")

    def test_two_desks(self):
        one, other = busy_desk(), busy_desk()
        before = kept_by(other)
        self.halts(one, ["new h 1", "board y"], 1, ["ok"])
        one.play(["new h 1"])
        self.assertEqual([kept_by(other), other.journal()], [before, []])


class NotLists(PlayCase):

    def test_any_value(self):
        desk = busy_desk()
        before = kept_by(desk)
        for thing in NOT_LISTS + ["board h", "new x 1", {"board h": 1}, {"board h"}, b"board h", Thing()]:
            with self.subTest(repr(thing)):
                with self.assertRaises(NoCommand) as caught:
                    desk.play(thing)
                self.assertIs(caught.exception.__class__, NoCommand)
                self.assertIs(caught.exception.command, thing)
        self.assertEqual([kept_by(desk), desk.journal()], [before, []])


class Journal(PlayCase):

    def test_two_items_for_each_play(self):
        desk = Desk()
        expected = []
        for commands, answered in (
            (["new h 1100", "board h"], 2), ([], 0), (["board x"], 0), (["board h", "nothing", "board h"], 1),
            (["board h"], 1), (["board h"] * 5 + [None], 5),
        ):
            try:
                desk.play(commands)
            except Halted as error:
                self.assertEqual([error.index, len(error.answers)], [answered, answered])
            expected += [("begin", len(commands)), ("end", answered)]
            self.assertEqual(desk.journal(), expected)
        self.assertEqual({item.__class__ for item in desk.journal()}, {tuple})
        self.assertEqual({item[1].__class__ for item in desk.journal()}, {int})

    def test_none_for_say_and_for_what_is_not_a_list(self):
        desk = Desk()
        desk.play(["new h 1100"])
        desk.say("board h")
        wrong = ((desk.say, "board x", NoHistory), (desk.say, None, NoCommand), (desk.play, "x", NoCommand))
        for call, value, error in wrong:
            with self.assertRaises(error):
                call(value)
        self.assertEqual(desk.journal(), [("begin", 1), ("end", 1)])

    def test_asking_adds_nothing(self):
        desk = busy_desk()
        desk.names()
        desk.history("h")
        desk.journal()
        self.assertEqual(desk.journal(), [])


class Lists(PlayCase):

    def test_they_belong_to_the_caller(self):
        desk = busy_desk()
        answers = desk.play(["board h", "board g"])
        answers.clear()
        journal = desk.journal()
        self.assertIs(journal.__class__, list)
        journal.append("more")
        desk.names().clear()
        self.assertEqual(desk.journal(), [("begin", 2), ("end", 2)])
        self.assertEqual(desk.play(["board h", "board g"]), ["1111", "1110"])
        self.assertEqual([journal[:2], len(journal)], [[("begin", 2), ("end", 2)], 3])

    def test_the_answers_of_an_error(self):
        desk = busy_desk()
        with self.assertRaises(Halted) as caught:
            desk.play(["board h", "board y"])
        caught.exception.answers.clear()
        self.halts(desk, ["board h", "board y"], 1, ["1111"])
        self.assertEqual(desk.journal(), [("begin", 2), ("end", 1)] * 2)

    def test_later_changes_of_the_commands(self):
        desk = Desk()
        commands = ["new h 1100", "board h"]
        found = desk.play(commands)
        commands.clear()
        self.assertEqual([found, desk.journal()], [["ok", "1100"], [("begin", 2), ("end", 2)]])


if __name__ == "__main__":
    unittest.main()
