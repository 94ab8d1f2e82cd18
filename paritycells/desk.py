"""Desks: histories under names, commands, plays and the journal."""

from paritycells.commands import values_in
from paritycells.depth import depth_of
from paritycells.errors import (
    CellError, Halted, LimitError, MissingError, NoCommand, NoHistory, NoName, StateError,
)
from paritycells.histories import History, standing_flips
from paritycells.past import board_at, cells_today, does_matter, flip_today, has_acted
from paritycells.stamps import is_name
from paritycells.tables import table_of
from paritycells.texts import board_text, cells_text, flip_text


def do_enter(history, values):
    """Enter a flip."""
    history.enter(tuple(values[:3]), values[3])
    return "ok"


def do_remove(history, values):
    """Remove an entry."""
    history.remove(tuple(values))
    return "ok"


def do_restore(history, values):
    """Restore an entry."""
    history.restore(tuple(values))
    return "ok"


def tell_board(history, values):
    """Return the text of the board."""
    return board_text(history.board())


def tell_at(history, values):
    """Return the text of the board at a time."""
    return board_text(board_at(history, time=values[0]))


def tell_today(history, values):
    """Return the text of the flip today of an entry."""
    return flip_text(flip_today(history, tuple(values)))


def tell_cells(history, values):
    """Return the text of the cells today."""
    return cells_text(cells_today(history, values[0], time=values[1]))


def tell_acted(history, values):
    """Return whether an entry acted."""
    return yes_or_no(has_acted(history, tuple(values)))


def tell_matters(history, values):
    """Return whether an entry matters to a cell."""
    return yes_or_no(does_matter(history, tuple(values[:3]), cell=values[3]))


def tell_depth(history, values):
    """Return the depth of the table of all standing entries."""
    flips = standing_flips(history, history.stamps())
    return str(depth_of(table_of(history.start().size(), flips)))


def tell_length(history, values):
    """Return the number of entries."""
    return str(len(history))


def yes_or_no(answer):
    """Return the word for the bool."""
    return "yes" if answer else "no"


# What a command does to the history under its name, or tells of it.
ANSWERS = {
    "enter": do_enter,
    "remove": do_remove,
    "restore": do_restore,
    "board": tell_board,
    "at": tell_at,
    "today": tell_today,
    "cells": tell_cells,
    "acted": tell_acted,
    "matters": tell_matters,
    "depth": tell_depth,
    "length": tell_length,
}


class Desk:
    """A desk; it keeps histories by their names, and the events of its journal."""

    def __init__(self):
        self.kept = {}
        self.events = []

    def say(self, command):
        """Do the command and return its answer, or raise NoCommand, NoName, NoHistory or the error of a function."""
        values = values_in(command)
        if values is None:
            raise NoCommand(command)
        word, name = values[:2]
        if word == "new":
            check_name(name)
            return self.keep_history(name, History(values[2]))
        if word == "copy":
            check_name(values[2])
            return self.keep_history(values[2], self.history(name))
        answer = ANSWERS[word]
        return answer(self.kept_history(name), values[2:])

    def play(self, commands):
        """Do all commands or none and return the list of their answers, or raise NoCommand or Halted."""
        if not isinstance(commands, (list, tuple)):
            raise NoCommand(commands)
        self.events.append(("begin", len(commands)))
        before = {name: self.history(name) for name in self.kept}
        answers = []
        try:
            for command in commands:
                answers.append(self.say(command))
        except (CellError, MissingError, StateError, LimitError) as error:
            self.kept = before
            self.events.append(("end", len(answers)))
            raise Halted(len(answers), answers) from error
        self.events.append(("end", len(answers)))
        return answers

    def names(self):
        """Return the sorted list of the names under which histories are kept."""
        return sorted(list(self.kept))

    def history(self, name):
        """Return a copy of the History under the name, or raise NoHistory(name)."""
        return self.kept_history(name).copied()

    def journal(self):
        """Return the list of the events of all plays."""
        return list(self.events)

    def kept_history(self, name):
        """Return the very History under the name, or raise NoHistory(name)."""
        # A dict cannot look up a list.
        if not is_name(name) or name not in self.kept:
            raise NoHistory(name)
        return self.kept[name]

    def keep_history(self, name, history):
        """Keep the History under the name, in the place of an older one."""
        self.kept[name] = history
        return "ok"


def check_name(name):
    """Raise NoName(name) if the word is not a name."""
    if not is_name(name):
        raise NoName(name)
