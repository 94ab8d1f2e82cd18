"""Sets of cells as integers, with one bit for each cell, and sums of such sets.

Adding two sets is then a single operation, which keeps tables of forty cells fast.
"""


def mask_of(cells):
    """Return the integer that stands for the distinct cells."""
    return sum([1 << cell for cell in cells])


def cells_of(mask):
    """Return the cells that the integer stands for, in ascending order."""
    return tuple([cell for cell in range(mask.bit_length()) if (mask >> cell) & 1 == 1])


def pivots_of(masks):
    """Return independent sums of the masks, as many as possible, no two of them with the same greatest cell.

    The dict gives each sum, with the mask of the indexes of what it is the sum of, by its bit length.
    """
    pivots = {}
    for index, mask in enumerate(masks):
        rest, added = reduced(pivots, mask)
        if rest != 0:
            pivots[rest.bit_length()] = (rest, added ^ (1 << index))
    return pivots


def reduced(pivots, mask):
    """Return what is left of the mask after adding pivots to it, and the mask of the indexes that were added.

    Nothing is left exactly if the mask is a sum of pivots.
    """
    rest = mask
    added = 0
    while rest.bit_length() in pivots:
        pivot, indexes = pivots[rest.bit_length()]
        rest = rest ^ pivot
        added = added ^ indexes
    return rest, added


def rank_of(masks):
    """Return the greatest number of independent masks among these."""
    return len(pivots_of(masks))
