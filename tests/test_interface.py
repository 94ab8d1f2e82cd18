"""The whole interface: each name in its file, with its parameters, called by position and by name."""

import importlib
import inspect
import unittest

from paritycells.boards import Board
from paritycells.cells import MOST_CELLS
from paritycells.desk import Desk
from paritycells.flips import Flip, add_flip, swap_flip
from paritycells.histories import History
from paritycells.houses import House
from paritycells.programs import Program
from paritycells.tables import Table, table_of
from paritycells.watchers import Watcher

# Every function, class and method of the interface, with its parameters as they are written there.
INTERFACE = """
cells.is_cell(thing, *, size=MOST_CELLS)
cells.cell_tuple(things, *, size=MOST_CELLS)
boards.Board(size, *, up=())
boards.Board.size()
boards.Board.up()
boards.Board.is_up(cell)
boards.Board.parity(cells)
boards.Board.toggled(cells)
flips.Flip(tested, toggled)
flips.Flip.tested()
flips.Flip.toggled()
flips.Flip.is_idle()
flips.Flip.width()
flips.turn_flip(cell)
flips.add_flip(cell, *, to)
flips.swap_flip(one, other)
flips.apply_flip(board, flip)
sequences.apply_flips(board, flips)
sequences.reversed_flips(flips)
sequences.moved_past(flip, later)
sequences.cells_past(cells, later)
sequences.do_commute(one, other)
tables.Table(rows)
tables.Table.size()
tables.Table.row(cell)
tables.Table.source(cells)
tables.Table.image(board)
tables.Table.then(later)
tables.Table.inverse()
tables.Table.is_identity()
tables.identity_table(size)
tables.table_of(size, flips)
tables.are_alike(size, one, other)
stamps.is_name(thing)
stamps.is_time(thing)
stamps.is_stamp(thing)
histories.History(board)
histories.History.enter(stamp, flip)
histories.History.remove(stamp)
histories.History.restore(stamp)
histories.History.start()
histories.History.board()
histories.History.stamps()
histories.History.flip(stamp)
histories.History.stands(stamp)
histories.History.changes(stamp)
histories.History.copied()
past.flip_today(history, stamp)
past.board_at(history, *, time)
past.cells_today(history, cells, *, time)
past.parity_at(history, cells, *, time)
past.has_acted(history, stamp)
past.does_matter(history, stamp, *, cell)
depth.changes_of(table, board)
depth.are_independent(items)
depth.depth_of(table)
depth.witness_of(table)
depth.is_witness(table, boards)
shortest.shortest_flips(table)
shortest.shortest_ending_at(table, board)
shortest.switching_flips(history, stamps)
programs.Program(procedures)
programs.Program.names()
programs.Program.parameters(name)
programs.Program.body(name)
compiling.flip_count(program, name)
compiling.call_flips(program, name, cells, *, limit=200)
compiling.call_table(program, name, cells, *, size)
compiling.run_call(program, name, cells, *, board)
powers.power_of(table, count)
powers.board_after(table, board, *, passes)
powers.returns_after(table, count)
powers.board_midway(flips, board, *, passes, done)
powers.period_of(table)
powers.first_visit(table, one, other)
watchers.Watcher(history)
watchers.Watcher.look(cells, *, time)
watchers.Watcher.looks()
watchers.Watcher.knows(cells, *, time)
watchers.Watcher.reason(cells, *, time)
watchers.Watcher.is_reason(thing, cells, *, time)
watchers.Watcher.doubt(cells, *, time)
watchers.Watcher.is_doubt(thing, cells, *, time)
houses.House(hands, board)
houses.House.hands()
houses.House.start()
houses.House.base()
houses.House.board()
houses.House.horizon()
houses.House.entries()
houses.House.act(hand, flip, *, time)
houses.House.remove(hand, stamp)
houses.House.restore(hand, stamp)
houses.House.receive(entries)
houses.House.hear(hand, *, time)
houses.House.heard(hand)
houses.House.fold(*, time)
houses.House.folded()
houses.House.copied()
folding.deeds_table(house)
folding.difference_of(one, other)
folding.acting_stamps(house)
folding.mattering_stamps(house, *, cell)
texts.cells_text(cells)
texts.flip_text(flip)
texts.board_text(board)
texts.read_cells(text)
texts.read_flip(text)
texts.read_board(text)
historytexts.history_text(history)
historytexts.read_history(text)
desk.Desk()
desk.Desk.say(command)
desk.Desk.play(commands)
desk.Desk.names()
desk.Desk.history(name)
desk.Desk.journal()
""".split("\n")[1:-1]
VALUES = {
    "cells.MOST_CELLS": 40, "stamps.MOST_TIME": 10 ** 18, "histories.MOST_ENTRIES": 300, "watchers.MOST_LOOKS": 60,
    "houses.MOST_ENTRIES": 300,
}
SPECIAL = {
    "boards.Board": ("__eq__", "__len__", "__repr__", "__str__"), "flips.Flip": ("__eq__", "__repr__", "__str__"),
    "tables.Table": ("__eq__", "__len__", "__repr__"), "histories.History": ("__eq__", "__len__"),
    "programs.Program": ("__eq__", "__len__", "__repr__"), "watchers.Watcher": ("__len__",),
    "houses.House": ("__eq__", "__len__"),
}

ANN, BOB = (5, "ann", 0), (7, "bob", 0)
FLIP, LATER = add_flip(1, to=2), add_flip(2, to=3)
BOARD, FLIPS = Board(4, up=[1]), [FLIP, LATER]
TABLE = table_of(4, FLIPS)
TURNING = table_of(4, [swap_flip(1, 2), swap_flip(2, 3)])
COPY = (("a", "b"), (("flip", ("a",), ("b",)),))
PROGRAM = Program({"copy": COPY})


def new_history():
    history = History(BOARD)
    history.enter(ANN, FLIP)
    history.enter(BOB, LATER)
    return history


def new_watcher():
    watcher = Watcher(new_history())
    watcher.look([3], time=9)
    return watcher


def new_house():
    house = House(["ann", "bob"], BOARD)
    house.act("ann", FLIP, time=5)
    house.act("bob", LATER, time=7)
    for hand in ("ann", "bob"):
        house.hear(hand, time=6)
    return house


def removed_from(made, *values):
    made.remove(*values)
    return made


def new_desk():
    desk = Desk()
    desk.play(["new h 1100", "enter h 5 ann 0 1>2"])
    return desk


MAKERS = {
    "Board": lambda: BOARD, "Flip": lambda: Flip([3, 1], [2]), "Table": lambda: TABLE, "History": new_history,
    "Program": lambda: PROGRAM, "Watcher": new_watcher, "House": new_house, "Desk": new_desk,
}
# Values for the parameters of a name, where the values by parameter below do not suit it.
OWN_VALUES = {
    "tables.Table": {"rows": [[0], [1], [1, 2]]}, "tables.Table.then": {"later": TABLE},
    "sequences.moved_past": {"later": LATER}, "sequences.cells_past": {"later": LATER},
    "sequences.do_commute": {"one": FLIP, "other": LATER}, "tables.are_alike": {"one": FLIPS, "other": []},
    "flips.swap_flip": {"one": 2, "other": 1}, "powers.first_visit": {"table": TURNING, "one": BOARD, "other": BOARD},
    "powers.board_midway": {"passes": 2, "done": 1}, "boards.Board.toggled": {"cells": [3, 2]},
    "histories.History.enter": {"stamp": (6, "cy", 0)}, "stamps.is_name": {"thing": "ann"},
    "stamps.is_time": {"thing": 5}, "stamps.is_stamp": {"thing": ANN}, "cells.is_cell": {"thing": 3},
    "watchers.Watcher.is_reason": {"thing": ((0,), 0), "cells": [3], "time": 9},
    "watchers.Watcher.reason": {"cells": [3], "time": 9},
    "watchers.Watcher.is_doubt": {"thing": (BOARD, Board(4, up=[2]))}, "desk.Desk.history": {"name": "h"},
    "texts.read_cells": {"text": "1,3"}, "texts.read_flip": {"text": "1>2"}, "texts.read_board": {"text": "1010"},
    "historytexts.read_history": {"text": "start 1100\nentry 5 ann 0 1>2 stands 0\n"},
    "houses.House.fold": {"time": 6}, "houses.House.act": {"time": 8}, "boards.Board": {"up": [1]},
    "folding.difference_of": {"one": new_house(), "other": House(["ann"], BOARD)},
    "compiling.call_flips": {"limit": 1},
}
BY_PARAMETER = {
    "board": BOARD, "boards": [BOARD, Board(4, up=[2])], "cell": 2, "cells": [2, 1], "command": "board h",
    "commands": ["board h", "length h"], "count": 2, "entries": [((9, "bob", 3), FLIP, True, 0)], "flip": FLIP,
    "flips": FLIPS, "hand": "ann", "hands": ["ann", "bob"], "history": new_history(), "house": new_house(),
    "items": [[1, 2], [2]], "name": "copy", "passes": 2, "procedures": {"copy": COPY}, "program": PROGRAM, "size": 4,
    "stamp": ANN, "stamps": [ANN, BOB], "table": TABLE, "tested": [3, 1], "things": [3, 1], "time": 5, "to": 3,
    "toggled": [2],
}


def parts_of(line):
    """Return the path of a line of the interface, its names before and after the star, and those with a default."""
    path, rest = line[:-1].split("(", 1)
    words = [word for word in rest.split(", ") if word]
    plain = words[:words.index("*")] if "*" in words else words
    named = words[words.index("*") + 1:] if "*" in words else []
    defaults = [word.split("=")[0] for word in words if "=" in word]
    return path, plain, [word.split("=")[0] for word in named], defaults


def values_for(path, names):
    """Return a value for each of these parameters."""
    own = OWN_VALUES.get(path, {})
    return {name: own[name] if name in own else BY_PARAMETER[name] for name in names}


def holder_and_call(path):
    """Return the object to which a method belongs, or None, and what is called."""
    file, *names = path.split(".")
    if len(names) == 1:
        return None, getattr(importlib.import_module(f"paritycells.{file}"), names[0])
    holder = MAKERS[names[0]]()
    if path.endswith(".restore"):
        removed_from(holder, *([ANN] if names[0] == "History" else ["ann", ANN]))
    return holder, getattr(holder, names[1])


def seen(thing):
    """Return what can be compared: watchers and desks have no equality of their own."""
    if isinstance(thing, Watcher):
        return thing.looks()
    if isinstance(thing, Desk):
        return [thing.names(), [thing.history(name) for name in thing.names()], thing.journal()]
    return thing


class Interface(unittest.TestCase):

    def test_parameters(self):
        for line in INTERFACE:
            path = parts_of(line)[0]
            found = inspect.signature(holder_and_call(path)[1])
            with self.subTest(line):
                self.assertEqual(path + str(found), line.replace("MOST_CELLS", str(MOST_CELLS)))

    def test_defined_in_its_file_and_class(self):
        for line in INTERFACE:
            file, *names = parts_of(line)[0].split(".")
            module = importlib.import_module(f"paritycells.{file}")
            with self.subTest(line):
                self.assertEqual(vars(module)[names[0]].__module__, f"paritycells.{file}")
                if len(names) == 2:
                    self.assertTrue(inspect.isfunction(vars(vars(module)[names[0]])[names[1]]))
        for path, methods in SPECIAL.items():
            file, name = path.split(".")
            for method in methods:
                self.assertIn(method, vars(getattr(importlib.import_module(f"paritycells.{file}"), name)))

    def test_values(self):
        for path, value in VALUES.items():
            file, name = path.split(".")
            found = vars(importlib.import_module(f"paritycells.{file}"))[name]
            self.assertEqual([found, found.__class__], [value, int])

    def test_by_position_and_by_name(self):
        for line in INTERFACE:
            path, plain, named, defaults = parts_of(line)
            values = values_for(path, plain + named)
            with self.subTest(line):
                holder, call = holder_and_call(path)
                expected = call(*[values[name] for name in plain], **{name: values[name] for name in named})
                other, by_name = holder_and_call(path)
                found = by_name(**{name: values[name] for name in reversed(plain + named)})
                self.assertEqual(seen(found), seen(expected))
                self.assertEqual(seen(other), seen(holder))

    def test_after_a_bare_star_by_keyword_only(self):
        checked = 0
        for line in INTERFACE:
            path, plain, named, defaults = parts_of(line)
            values = values_for(path, plain + named)
            if named:
                holder, call = holder_and_call(path)
                before = seen(holder)
                with self.subTest(line), self.assertRaises(TypeError):
                    call(*[values[name] for name in plain + named])
                self.assertEqual(seen(holder), before)
                checked += 1
        self.assertEqual(checked, 23)

    def test_defaults_left_out(self):
        checked = 0
        for line in INTERFACE:
            path, plain, named, defaults = parts_of(line)
            if defaults:
                values = values_for(path, plain + named)
                call = holder_and_call(path)[1]
                written = {"size": MOST_CELLS, "up": (), "limit": 200}
                given = {name: values[name] for name in plain + named if name not in defaults}
                with self.subTest(line):
                    self.assertEqual(call(**given), call(**given, **{name: written[name] for name in defaults}))
                checked += 1
        self.assertEqual(checked, 4)

    def test_nothing_may_be_left_out_otherwise(self):
        for line in INTERFACE:
            path, plain, named, defaults = parts_of(line)
            values = values_for(path, plain + named)
            for left in [name for name in plain + named if name not in defaults]:
                call = holder_and_call(path)[1]
                with self.subTest(line), self.assertRaises(TypeError):
                    call(**{name: values[name] for name in values if name != left})


if __name__ == "__main__":
    unittest.main()
