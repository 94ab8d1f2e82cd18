"""The past of a history: boards and parities at a time, and what an entry does to today's board."""

from paritycells.cells import cell_tuple, is_cell
from paritycells.errors import NoCell, NoTime
from paritycells.flips import apply_flip
from paritycells.histories import standing_flips
from paritycells.sequences import apply_flips, cells_past, moved_past
from paritycells.stamps import is_time


def flip_today(history, stamp):
    """Return the Flip that switching the entry does to today's board, or raise NoEntry(stamp)."""
    today = history.flip(stamp)
    later = [each for each in history.stamps() if each > stamp]
    for flip in standing_flips(history, later):
        today = moved_past(today, flip)
    return today


def board_at(history, *, time):
    """Return the Board at the time, or raise NoTime(time)."""
    check_time(time)
    return apply_flips(history.start(), flips_until(history, time))


def cells_today(history, cells, *, time):
    """Return the cells whose parity today is that of the cells at the time, or raise NoCells(cells) or NoTime(time)."""
    today = cell_tuple(cells, size=history.start().size())
    check_time(time)
    later = [stamp for stamp in history.stamps() if stamp[0] > time]
    for flip in standing_flips(history, later):
        today = cells_past(today, flip)
    return today


def cells_at_start(history, cells, *, time):
    """Return the cells whose parity on the start board is that of the cells at the time, or raise as cells_today."""
    origin = cell_tuple(cells, size=history.start().size())
    check_time(time)
    # A flip undoes itself, so the cells move back past it in the way that they move forward.
    for flip in reversed(flips_until(history, time)):
        origin = cells_past(origin, flip)
    return origin


def parity_at(history, cells, *, time):
    """Return the parity of the cells on the board at the time, or raise the errors of cells_today."""
    return history.board().parity(cells_today(history, cells, time=time))


def has_acted(history, stamp):
    """Return whether the entry changes, or would change, the board just before it, or raise NoEntry(stamp)."""
    flip = history.flip(stamp)
    earlier = [each for each in history.stamps() if each < stamp]
    before = apply_flips(history.start(), standing_flips(history, earlier))
    return apply_flip(before, flip) != before


def does_matter(history, stamp, *, cell):
    """Return whether switching the entry changes the cell today, or raise NoEntry(stamp) or NoCell(cell)."""
    today = flip_today(history, stamp)
    board = history.board()
    if not is_cell(cell, size=board.size()):
        raise NoCell(cell)
    return apply_flip(board, today).is_up(cell) != board.is_up(cell)


def flips_until(history, time):
    """Return the flips of the standing entries with this time or a lesser one, in order."""
    return standing_flips(history, [stamp for stamp in history.stamps() if stamp[0] <= time])


def check_time(time):
    """Raise NoTime(time), for any value that is not a time."""
    if not is_time(time):
        raise NoTime(time)
