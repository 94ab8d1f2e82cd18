"""The errors of the package; each keeps what it is told in fields of the same names."""


class CellError(ValueError):
    """A value that is not what the call takes."""


class NoSize(CellError):
    """The value is not a size of a board."""

    def __init__(self, value):
        self.value = value


class NoCell(CellError):
    """The value is not a cell that the call takes."""

    def __init__(self, cell):
        self.cell = cell


class NoCells(CellError):
    """The value is not a list of cells that the call takes."""

    def __init__(self, cells):
        self.cells = cells


class NoFlip(CellError):
    """The tested and the toggled cells make no flip."""

    def __init__(self, why):
        self.why = why


class NoTable(CellError):
    """The rows make no table."""

    def __init__(self, why):
        self.why = why


class NoTime(CellError):
    """The value is not a time."""

    def __init__(self, time):
        self.time = time


class NoStamp(CellError):
    """The value is not a stamp."""

    def __init__(self, stamp):
        self.stamp = stamp


class NoCount(CellError):
    """The value is not a count that the call takes."""

    def __init__(self, count):
        self.count = count


class NoProgram(CellError):
    """The procedures make no program."""

    def __init__(self, why, where):
        self.why = why
        self.where = where


class NoHands(CellError):
    """The value is not a list of the hands of a house."""

    def __init__(self, value):
        self.value = value


class NoEntries(CellError):
    """The item at the index is not an entry tuple; -1 stands for the list itself."""

    def __init__(self, index):
        self.index = index


class NoName(CellError):
    """The value is not a name."""

    def __init__(self, name):
        self.name = name


class NoText(CellError):
    """The value is not a text of the thing to be read."""

    def __init__(self, line):
        self.line = line


class NoCommand(CellError):
    """The value is not a command of a desk."""

    def __init__(self, command):
        self.command = command


class Halted(CellError):
    """The command at the index ended a play; the answers came before it."""

    def __init__(self, index, answers):
        self.index = index
        self.answers = answers


class MissingError(LookupError):
    """A thing that is not there."""


class NoEntry(MissingError):
    """There is no entry with this stamp."""

    def __init__(self, stamp):
        self.stamp = stamp


class NoProcedure(MissingError):
    """There is no procedure of this name."""

    def __init__(self, name):
        self.name = name


class NoHand(MissingError):
    """The house has no such hand."""

    def __init__(self, hand):
        self.hand = hand


class NoHistory(MissingError):
    """No history is kept under this name."""

    def __init__(self, name):
        self.name = name


class StateError(RuntimeError):
    """A call that does not suit the present state."""


class Taken(StateError):
    """There is an entry with this stamp."""

    def __init__(self, stamp):
        self.stamp = stamp


class Standing(StateError):
    """The entry to be restored stands."""

    def __init__(self, stamp):
        self.stamp = stamp


class Removed(StateError):
    """The entry to be removed is removed."""

    def __init__(self, stamp):
        self.stamp = stamp


class Folded(StateError):
    """The time of the entry is not above the horizon."""

    def __init__(self, stamp):
        self.stamp = stamp


class Clash(StateError):
    """The stamp is known with another flip."""

    def __init__(self, stamp):
        self.stamp = stamp


class NotOwn(StateError):
    """The entry is one of another hand."""

    def __init__(self, stamp):
        self.stamp = stamp


class NotHeard(StateError):
    """The house has not heard from this hand up to the time."""

    def __init__(self, hand):
        self.hand = hand


class Behind(StateError):
    """The time is not above the horizon."""

    def __init__(self, time):
        self.time = time


class Unchanged(StateError):
    """The table does not change this board."""

    def __init__(self, value):
        self.value = value


class Known(StateError):
    """The watcher knows the parity of these cells."""

    def __init__(self, cells):
        self.cells = cells


class Unknown(StateError):
    """The watcher does not know the parity of these cells."""

    def __init__(self, cells):
        self.cells = cells


class LimitError(ArithmeticError):
    """A size or a number that does not suit another one."""


class TooWide(LimitError):
    """A flip needs a board of at least this size."""

    def __init__(self, needed):
        self.needed = needed


class TooMany(LimitError):
    """There would be more than the limit."""

    def __init__(self, limit):
        self.limit = limit


class Unlike(LimitError):
    """The two sizes differ."""

    def __init__(self, one, other):
        self.one = one
        self.other = other
