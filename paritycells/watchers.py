"""Watchers: what follows from some looks at a history, whatever its start board is."""

from paritycells.boards import is_board_of
from paritycells.cells import cell_tuple
from paritycells.errors import Known, TooMany, Unknown
from paritycells.integers import is_integer_between
from paritycells.masks import cells_of, mask_of, pivots_of, rank_of, reduced
from paritycells.past import cells_at_start
from paritycells.tables import added_masks

MOST_LOOKS = 60


class Watcher:
    """The looks at a history, and for each of them the cells of the start board that have its parity, as a mask."""

    def __init__(self, history):
        self.watched = history.copied()
        self.told = []
        self.origins = []

    def __len__(self):
        return len(self.told)

    def look(self, cells, *, time):
        """Add a look and return its result, or raise NoCells(cells), NoTime(time) or TooMany(limit)."""
        origin = cells_at_start(self.watched, cells, time=time)
        if len(self.told) >= MOST_LOOKS:
            raise TooMany(MOST_LOOKS)
        result = self.watched.start().parity(origin)
        self.told.append((time, cell_tuple(cells), result))
        self.origins.append(mask_of(origin))
        return result

    def looks(self):
        """Return the list of the looks, in order, as tuples (time, cells, result)."""
        return list(self.told)

    def knows(self, cells, *, time):
        """Return whether the looks leave one parity only, or raise NoCells(cells) or NoTime(time)."""
        return indexes_behind(self.origins, self.origin(cells, time)) is not None

    def reason(self, cells, *, time):
        """Return the looks that the parity follows from, with a constant, or raise as knows, or Unknown(cells)."""
        asked = self.origin(cells, time)
        indexes = indexes_behind(self.origins, asked)
        if indexes is None:
            raise Unknown(cell_tuple(cells))
        return indexes, asked ^ added_masks(self.origins, indexes)

    def is_reason(self, thing, cells, *, time):
        """Return whether thing is a reason, for any value of thing, or raise as knows."""
        asked = self.origin(cells, time)
        if not is_index_pair(thing, len(self.told)):
            return False
        indexes, constant = thing
        chosen = [self.origins[index] for index in indexes]
        # The cells of the start board must agree for every start board; cell 0 counts as the constant 1.
        if (added_masks(self.origins, indexes) ^ constant) != asked:
            return False
        return rank_of(free_parts(chosen)) == len(chosen)

    def doubt(self, cells, *, time):
        """Return two start boards that agree on all looks and differ here, or raise as knows, or Known(cells)."""
        asked = self.origin(cells, time)
        if indexes_behind(self.origins, asked) is not None:
            raise Known(cell_tuple(cells))
        start = self.watched.start()
        return start, start.toggled(odd_only_last(self.origins + [asked]))

    def is_doubt(self, thing, cells, *, time):
        """Return whether thing is a doubt, for any value of thing, or raise as knows."""
        asked = self.origin(cells, time)
        start = self.watched.start()
        if not isinstance(thing, tuple) or len(thing) != 2:
            return False
        one, other = thing
        if not is_board_of(one, start.size()) or not is_board_of(other, start.size()) or one != start:
            return False
        agree = all([is_same_parity(start, other, origin) for origin in self.origins])
        return agree and not is_same_parity(start, other, asked)

    def origin(self, cells, time):
        """Return the cells of the start board with the parity of the cells at the time, as a mask, or raise."""
        return mask_of(cells_at_start(self.watched, cells, time=time))


def free_part(mask):
    """Return the mask without cell 0, which is up on every start board."""
    return mask >> 1


def free_parts(masks):
    """Return the masks without cell 0."""
    return [free_part(mask) for mask in masks]


def indexes_behind(origins, asked):
    """Return the indexes of independent origins whose sum, but for cell 0, is the asked mask, or None."""
    rest, added = reduced(pivots_of(free_parts(origins)), free_part(asked))
    # Pivots are sums of independent masks only, so none of these indexes can be left out.
    return cells_of(added) if rest == 0 else None


def odd_only_last(masks):
    """Return cells, without cell 0, that share an odd number with the last mask and an even number with the others.

    The last mask must not be a sum of the others, but for cell 0.
    """
    last = len(masks) - 1
    pivots = pivots_of(free_parts(masks))
    chosen = 0
    # The greatest cell of a pivot is in no lesser pivot, so choosing it spoils nothing that was decided before.
    for length in sorted(list(pivots)):
        pivot, indexes = pivots[length]
        wanted = (indexes >> last) & 1
        if len(cells_of(pivot & chosen)) % 2 != wanted:
            chosen = chosen ^ (1 << (length - 1))
    return cells_of(chosen << 1)


def is_same_parity(one, other, mask):
    """Return whether the cells of the mask have the same parity on the two boards."""
    cells = cells_of(mask)
    return one.parity(cells) == other.parity(cells)


def is_index_pair(thing, many):
    """Return whether thing has the form of a reason from as many looks, for any value of thing."""
    if not isinstance(thing, tuple) or len(thing) != 2 or not isinstance(thing[0], tuple):
        return False
    indexes, constant = thing
    if not all([is_integer_between(index, 0, many - 1) for index in indexes]):
        return False
    return list(indexes) == sorted(set(indexes)) and is_integer_between(constant, 0, 1)
