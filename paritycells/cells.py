"""Cells, and sets of cells as ascending tuples."""

from paritycells.errors import NoCells
from paritycells.integers import is_integer_between

MOST_CELLS = 40


def is_size(thing):
    """Return whether thing is a size of a board, for any value of thing."""
    return is_integer_between(thing, 1, MOST_CELLS)


def is_cell(thing, *, size=MOST_CELLS):
    """Return whether thing is a cell of a board of this size, for any value of thing."""
    return is_integer_between(thing, 0, size - 1)


def are_cells(things, size):
    """Return whether things is a list of distinct cells of this size, for any value of things."""
    if not isinstance(things, (list, tuple)):
        return False
    if not all([is_cell(thing, size=size) for thing in things]):
        return False
    # Only now are all items known to be integers, which a set can hold.
    return len(set(things)) == len(things)


def cell_tuple(things, *, size=MOST_CELLS):
    """Return the cells in ascending order, or raise NoCells(things)."""
    if not are_cells(things, size):
        raise NoCells(things)
    return tuple(sorted(things))


def added_cells(one, other):
    """Return the cells that are in exactly one of the two tuples, in ascending order."""
    return tuple(sorted(set(one) ^ set(other)))


def share_odd(one, other):
    """Return whether an odd number of cells is in both tuples."""
    return len(set(one) & set(other)) % 2 == 1


def written_cells(cells):
    """Return the text of cells that are valid and in ascending order."""
    if not cells:
        return "-"
    return ",".join([str(cell) for cell in cells])
