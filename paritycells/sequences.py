"""Sequences of flips: done, reversed, and flips and cells moved past a later flip."""

from paritycells.cells import added_cells, cell_tuple, share_odd
from paritycells.flips import Flip, apply_flip


def apply_flips(board, flips):
    """Return the Board after the flips are done in order, or raise TooWide(needed)."""
    reached = board
    for flip in flips:
        reached = apply_flip(reached, flip)
    return reached


def reversed_flips(flips):
    """Return the list of the flips in reverse order, which undoes them."""
    return list(reversed(flips))


def moved_past(flip, later):
    """Return the Flip that does after the later flip what this flip does before it."""
    tested = cells_past(flip.tested(), later)
    toggled = flip.toggled()
    if share_odd(toggled, later.tested()):
        toggled = added_cells(toggled, later.toggled())
    return Flip(tested, toggled)


def cells_past(cells, later):
    """Return the cells whose parity after the later flip is that of the cells before it, or raise NoCells(cells)."""
    kept = cell_tuple(cells)
    if share_odd(kept, later.toggled()):
        return added_cells(kept, later.tested())
    return kept


def do_commute(one, other):
    """Return whether the two flips commute."""
    return not share_odd(one.tested(), other.toggled()) and not share_odd(other.tested(), one.toggled())
