"""Folding: what all deeds of a house do, how two houses differ, and which entries acted and matter."""

from paritycells.cells import is_cell, share_odd
from paritycells.errors import NoCell, Unlike
from paritycells.flips import apply_flip
from paritycells.sequences import cells_past
from paritycells.shortest import shortest_flips
from paritycells.tables import table_of


def deeds_table(house):
    """Return the Table of the folded sequence and the standing entries."""
    standing = [flip for stamp, flip, stands, changes in house.entries() if stands]
    return house.folded_table.then(table_of(house.start().size(), standing))


def difference_of(one, other):
    """Return a shortest sequence that undoes the deeds of the other house and does those of one, or raise Unlike."""
    size, other_size = one.start().size(), other.start().size()
    if size != other_size:
        raise Unlike(size, other_size)
    return shortest_flips(deeds_table(other).inverse().then(deeds_table(one)))


def acting_stamps(house):
    """Return the list of the stamps of all entries that change, or would change, the board just before them."""
    acting = []
    board = house.base()
    for stamp, flip, stands, changes in house.entries():
        after = apply_flip(board, flip)
        if after != board:
            acting.append(stamp)
        if stands:
            board = after
    return acting


def mattering_stamps(house, *, cell):
    """Return the list of the stamps of all entries whose switching changes the cell today, or raise NoCell(cell)."""
    if not is_cell(cell, size=house.start().size()):
        raise NoCell(cell)
    acting = acting_stamps(house)
    backwards = []
    # From the last entry to the first, these are the cells whose parity just after the entry is the cell today.
    cells = (cell,)
    for stamp, flip, stands, changes in reversed(house.entries()):
        if stamp in acting and share_odd(flip.toggled(), cells):
            backwards.append(stamp)
        if stands:
            cells = cells_past(cells, flip)
    return list(reversed(backwards))
