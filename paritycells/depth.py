"""The depth of a table: how many boards it changes independently of each other."""

from paritycells.boards import Board, is_board_of
from paritycells.cells import added_cells, cell_tuple
from paritycells.masks import mask_of, pivots_of, rank_of, reduced


def changes_of(table, board):
    """Return the cells in which the board and its image differ, or raise Unlike(one, other)."""
    return added_cells(board.up(), table.image(board).up())


def are_independent(items):
    """Return whether no nonempty selection of the items adds up to the empty set, or raise NoCells(item)."""
    masks = [mask_of(cell_tuple(item)) for item in items]
    return rank_of(masks) == len(masks)


def gaps_of(table):
    """Return, for each cell, the cells whose parity on a board tells whether the table changes the cell there."""
    return [added_cells(table.row(cell), (cell,)) for cell in range(table.size())]


def depth_of(table):
    """Return the depth of the table."""
    # Gaps and changes are the rows and the columns of one matrix, and a matrix has as many independent rows as columns.
    return rank_of([mask_of(gap) for gap in gaps_of(table)])


def witness_of(table):
    """Return a list of as many Boards as the depth, with independent changes."""
    witness = []
    masks = []
    # Every board is a sum of boards with at most one cell up beside cell 0, so their changes suffice.
    for cell in range(table.size()):
        board = Board(table.size(), up=(cell,))
        mask = mask_of(changes_of(table, board))
        rest, added = reduced(pivots_of(masks), mask)
        if rest != 0:
            witness.append(board)
            masks.append(mask)
    return witness


def is_witness(table, boards):
    """Return whether boards is a witness for the table, for any value of boards."""
    if not isinstance(boards, (list, tuple)) or len(boards) != depth_of(table):
        return False
    if not all([is_board_of(board, table.size()) for board in boards]):
        return False
    return are_independent([changes_of(table, board) for board in boards])
