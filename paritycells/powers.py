"""Powers of tables: any number of passes at once, periods and first visits."""

from paritycells.errors import NoCount, TooMany
from paritycells.integers import MOST_PASSES, is_integer_between
from paritycells.sequences import apply_flips
from paritycells.tables import composed_masks, single_masks, table_of, table_with

# A round through the boards of so few cells can be followed board by board.
MOST_CELLS_OF_ROUNDS = 10


def power_of(table, count):
    """Return the Table of as many passes as the count says, or raise NoCount(count)."""
    check_count(count, -MOST_PASSES, MOST_PASSES)
    one_pass = table.inverse() if count < 0 else table
    return table_with(power_masks(one_pass.masks, abs(count)))


def power_masks(masks, count):
    """Return the masks of as many passes, by as many squares as the count has binary digits."""
    power = single_masks(len(masks))
    square = masks
    left = count
    while left > 0:
        if left % 2 == 1:
            power = composed_masks(power, square)
        square = composed_masks(square, square)
        left = left // 2
    return power


def board_after(table, board, *, passes):
    """Return the Board after as many passes, or raise Unlike(one, other) or NoCount(passes)."""
    table.check_size(board.size())
    return power_of(table, passes).image(board)


def returns_after(table, count):
    """Return whether as many passes take each board back to itself, or raise NoCount(count)."""
    return power_of(table, count).is_identity()


def board_midway(flips, board, *, passes, done):
    """Return the Board after whole passes and the first flips of the next, or raise TooWide(needed) or NoCount."""
    table = table_of(board.size(), flips)
    check_count(passes, 0, MOST_PASSES)
    check_count(done, 0, len(flips))
    return apply_flips(board_after(table, board, passes=passes), flips[:done])


def period_of(table):
    """Return the least number of passes, from 1 on, that is the identity, or raise TooMany(limit)."""
    check_rounds(table)
    period = 1
    power = table.masks
    while power != single_masks(table.size()):
        power = composed_masks(power, table.masks)
        period += 1
    return period


def first_visit(table, one, other):
    """Return the least number of passes from one board to the other or None, or raise Unlike or TooMany(limit)."""
    table.check_size(one.size())
    table.check_size(other.size())
    check_rounds(table)
    reached = one
    count = 0
    while reached != other:
        reached = table.image(reached)
        count += 1
        if reached == one:
            return None
    return count


def check_count(count, low, high):
    """Raise NoCount(count), for any value that is not an integer from low to high."""
    if not is_integer_between(count, low, high):
        raise NoCount(count)


def check_rounds(table):
    """Raise TooMany(limit) if the table has too many cells for following its rounds."""
    if table.size() > MOST_CELLS_OF_ROUNDS:
        raise TooMany(MOST_CELLS_OF_ROUNDS)
