"""Boards: cells that are up or down."""

from paritycells.cells import added_cells, cell_tuple, is_cell, is_size
from paritycells.errors import NoCell, NoCells, NoSize


class Board:
    """An immutable board; its states hold 1 for each cell that is up and 0 for each that is down."""

    def __init__(self, size, *, up=()):
        if not is_size(size):
            raise NoSize(size)
        raised = cell_tuple(up, size=size)
        self.states = tuple([1 if cell == 0 or cell in raised else 0 for cell in range(size)])

    def __eq__(self, other):
        return isinstance(other, Board) and self.states == other.states

    def __len__(self):
        return len(self.states)

    def __repr__(self):
        return f"Board({len(self.states)}, up={list(self.up())!r})"

    def __str__(self):
        return "".join([str(state) for state in self.states])

    def size(self):
        """Return the size."""
        return len(self.states)

    def up(self):
        """Return the cells that are up, cell 0 included."""
        return tuple([cell for cell, state in enumerate(self.states) if state == 1])

    def is_up(self, cell):
        """Return whether the cell is up, or raise NoCell(cell)."""
        if not is_cell(cell, size=self.size()):
            raise NoCell(cell)
        return self.states[cell] == 1

    def parity(self, cells):
        """Return the parity of the cells, or raise NoCells(cells)."""
        chosen = cell_tuple(cells, size=self.size())
        return sum([self.states[cell] for cell in chosen]) % 2

    def toggled(self, cells):
        """Return the Board in which these cells are changed, or raise NoCells(cells)."""
        changed = cell_tuple(cells, size=self.size())
        # Board() would put cell 0 up again without a word.
        if 0 in changed:
            raise NoCells(cells)
        return Board(self.size(), up=added_cells(self.up(), changed))


def is_board_of(thing, size):
    """Return whether thing is a Board of this size, for any value of thing."""
    return isinstance(thing, Board) and thing.size() == size
