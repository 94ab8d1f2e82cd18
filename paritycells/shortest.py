"""Shortest sequences: as many flips as the depth of a table, and never one more."""

from paritycells.boards import Board
from paritycells.cells import added_cells
from paritycells.depth import changes_of, gaps_of
from paritycells.errors import NoEntry, Unchanged
from paritycells.flips import Flip
from paritycells.histories import standing_flips
from paritycells.sequences import reversed_flips
from paritycells.tables import table_of


def shortest_flips(table):
    """Return a shortest sequence of the table."""
    backwards = []
    rest = table
    while not rest.is_identity():
        last = last_flip(rest, changed_board(rest))
        backwards.append(last)
        rest = rest.then(table_of(rest.size(), [last]))
    return reversed_flips(backwards)


def shortest_ending_at(table, board):
    """Return a shortest sequence that ends at the board, or raise Unlike(one, other) or Unchanged(value)."""
    if not changes_of(table, board):
        raise Unchanged(board)
    last = last_flip(table, board)
    return shortest_flips(table.then(table_of(table.size(), [last]))) + [last]


def changed_board(table):
    """Return a Board that the table, which is not the identity, changes."""
    gaps = [gap for gap in gaps_of(table) if gap]
    # The least cell of a gap is the only one of the gap that is up here, so its parity is odd.
    return Board(table.size(), up=gaps[0][:1])


def last_flip(table, board):
    """Return the Flip that changes the board as the table does, and that leaves a table of one depth less.

    The table followed by the flip is that table of one depth less, and it leads the board back to itself. The
    toggled cells must be the changes of the board. Let some cells share an odd number with these changes and an odd
    number with the changes of the inverse; then the sum of the gaps of the inverse at these cells can be tested: it
    shares an even number with the changes, is odd on the board, and is even on each board that the table keeps.
    """
    changed = changes_of(table, board)
    inverse = table.inverse()
    chosen = cells_odd_in_both(changed, changes_of(inverse, board))
    return Flip(added_cells(inverse.source(chosen), chosen), changed)


def cells_odd_in_both(one, other):
    """Return cells that share an odd number with each of the two tuples, neither of which is empty."""
    common = [cell for cell in one if cell in other]
    if common:
        return (common[0],)
    return (one[0], other[0])


def switching_flips(history, stamps):
    """Return a switching sequence of the entries with these stamps, or raise NoEntry(stamp)."""
    for stamp in stamps:
        if not history.has_entry(stamp):
            raise NoEntry(stamp)
    size = history.start().size()
    before = table_of(size, standing_flips(history, history.stamps()))
    after = table_of(size, flips_when_switched(history, stamps))
    return shortest_flips(before.inverse().then(after))


def flips_when_switched(history, stamps):
    """Return the flips of the entries that stand when those with these stamps are switched, in order."""
    return [history.flip(stamp) for stamp in history.stamps() if history.stands(stamp) != (stamp in stamps)]
