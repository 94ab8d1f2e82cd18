"""Tables: what a sequence of flips does to every board of a size."""

from paritycells.boards import Board
from paritycells.cells import MOST_CELLS, are_cells, cell_tuple, is_cell, is_size
from paritycells.errors import NoCell, NoSize, NoTable, Unlike
from paritycells.flips import check_fit
from paritycells.masks import cells_of, mask_of, pivots_of, rank_of, reduced


class Table:
    """An immutable table; its masks hold the row of each cell."""

    def __init__(self, rows):
        if not are_rows(rows):
            raise NoTable("rows")
        self.masks = tuple([mask_of(row) for row in rows])
        if self.masks[0] != 1:
            raise NoTable("first")
        if rank_of(self.masks) != len(self.masks):
            raise NoTable("singular")

    def __eq__(self, other):
        return isinstance(other, Table) and self.masks == other.masks

    def __len__(self):
        return len(self.masks)

    def __repr__(self):
        rows = [list(cells_of(mask)) for mask in self.masks]
        return f"Table({rows!r})"

    def size(self):
        """Return the size."""
        return len(self.masks)

    def row(self, cell):
        """Return the row of the cell, or raise NoCell(cell)."""
        if not is_cell(cell, size=self.size()):
            raise NoCell(cell)
        return cells_of(self.masks[cell])

    def source(self, cells):
        """Return the rows of the cells, added, or raise NoCells(cells)."""
        return cells_of(added_masks(self.masks, cell_tuple(cells, size=self.size())))

    def image(self, board):
        """Return the Board to which the table takes the board, or raise Unlike(one, other)."""
        self.check_size(board.size())
        up = [cell for cell in range(self.size()) if board.parity(self.row(cell)) == 1]
        return Board(self.size(), up=up)

    def then(self, later):
        """Return the Table of this table followed by the later one, or raise Unlike(one, other)."""
        self.check_size(later.size())
        return table_with(composed_masks(self.masks, later.masks))

    def inverse(self):
        """Return the Table that takes each image back to its board."""
        pivots = pivots_of(self.masks)
        rows = []
        for cell in range(self.size()):
            # The rows that add up to the cell alone tell its state before from the states after.
            rest, added = reduced(pivots, 1 << cell)
            rows.append(cells_of(added))
        return Table(rows)

    def is_identity(self):
        """Return whether the row of each cell is that cell alone."""
        return self.masks == single_masks(self.size())

    def check_size(self, size):
        """Raise Unlike(one, other) if the size is not that of the table."""
        if size != self.size():
            raise Unlike(self.size(), size)


def are_rows(things):
    """Return whether things is a list of as many cells as a table of its length has rows, for any value of things."""
    if not isinstance(things, (list, tuple)) or not 1 <= len(things) <= MOST_CELLS:
        return False
    return all([are_cells(thing, len(things)) for thing in things])


def added_masks(masks, cells):
    """Return the masks of the cells, added."""
    total = 0
    for cell in cells:
        total = total ^ masks[cell]
    return total


def single_masks(size):
    """Return the masks of the identity."""
    return tuple([1 << cell for cell in range(size)])


def composed_masks(masks, later):
    """Return the masks of the rows after the later rows are applied, too."""
    return tuple([added_masks(masks, cells_of(mask)) for mask in later])


def table_with(masks):
    """Return the Table with these masks."""
    return Table([cells_of(mask) for mask in masks])


def identity_table(size):
    """Return the identity Table, or raise NoSize(value)."""
    return table_of(size, [])


def table_of(size, flips):
    """Return the Table of the sequence, or raise NoSize(value) or TooWide(needed)."""
    if not is_size(size):
        raise NoSize(size)
    masks = single_masks(size)
    for flip in flips:
        check_fit(flip, size)
        masks = masks_after(masks, flip)
    return table_with(masks)


def masks_after(masks, flip):
    """Return the masks of the rows after the flip is done, too."""
    parity = added_masks(masks, flip.tested())
    toggled = flip.toggled()
    return tuple([mask ^ parity if cell in toggled else mask for cell, mask in enumerate(masks)])


def are_alike(size, one, other):
    """Return whether the two sequences have the same table, or raise the errors of table_of."""
    return table_of(size, one) == table_of(size, other)
