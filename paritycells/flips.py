"""Flips: cells toggled if the parity of other cells is odd."""

from paritycells.cells import cell_tuple, is_cell, share_odd, written_cells
from paritycells.errors import NoCell, NoFlip, TooWide


class Flip:
    """An immutable flip with its tested and its toggled cells."""

    def __init__(self, tested, toggled):
        self.tested_cells = cell_tuple(tested)
        self.toggled_cells = cell_tuple(toggled)
        if 0 in self.toggled_cells:
            raise NoFlip("fixed")
        if share_odd(self.tested_cells, self.toggled_cells):
            raise NoFlip("odd")

    def __eq__(self, other):
        return (
            isinstance(other, Flip)
            and self.tested_cells == other.tested_cells
            and self.toggled_cells == other.toggled_cells
        )

    def __repr__(self):
        return f"Flip(tested={list(self.tested_cells)!r}, toggled={list(self.toggled_cells)!r})"

    def __str__(self):
        return f"{written_cells(self.tested_cells)}>{written_cells(self.toggled_cells)}"

    def tested(self):
        """Return the tested cells."""
        return self.tested_cells

    def toggled(self):
        """Return the toggled cells."""
        return self.toggled_cells

    def is_idle(self):
        """Return whether the flip changes no board at all."""
        return not self.tested_cells or not self.toggled_cells

    def width(self):
        """Return the least size of a board that the flip fits."""
        return max(self.tested_cells + self.toggled_cells, default=0) + 1


def can_toggle(thing):
    """Return whether thing is a cell that a flip may toggle, for any value of thing."""
    return is_cell(thing) and thing != 0


def turn_flip(cell):
    """Return the Flip that toggles the cell on every board, or raise NoCell(cell)."""
    if not can_toggle(cell):
        raise NoCell(cell)
    return Flip((0,), (cell,))


def add_flip(cell, *, to):
    """Return the Flip that tests the cell and toggles the cell to, or raise NoCell."""
    if not is_cell(cell):
        raise NoCell(cell)
    if not can_toggle(to) or to == cell:
        raise NoCell(to)
    return Flip((cell,), (to,))


def swap_flip(one, other):
    """Return the Flip that exchanges the states of the two cells, or raise NoCell."""
    if not can_toggle(one):
        raise NoCell(one)
    if not can_toggle(other) or one == other:
        raise NoCell(other)
    return Flip((one, other), (one, other))


def check_fit(flip, size):
    """Raise TooWide(needed) if the flip does not fit a board of this size."""
    if flip.width() > size:
        raise TooWide(flip.width())


def apply_flip(board, flip):
    """Return the Board after the flip is done, or raise TooWide(needed)."""
    check_fit(flip, board.size())
    changed = flip.toggled() if board.parity(flip.tested()) == 1 else ()
    return board.toggled(changed)
