"""Histories: flips in the order of their stamps, each standing or removed."""

from paritycells.errors import NoEntry, NoStamp, Removed, Standing, Taken, TooMany
from paritycells.flips import check_fit
from paritycells.sequences import apply_flips
from paritycells.stamps import is_stamp

MOST_ENTRIES = 300


class History:
    """A start board and entries; an entry stands exactly if its count of changes is even."""

    def __init__(self, board):
        self.start_board = board
        self.flips_entered = {}
        self.change_counts = {}

    def __eq__(self, other):
        return (
            isinstance(other, History)
            and self.start_board == other.start_board
            and self.flips_entered == other.flips_entered
            and self.change_counts == other.change_counts
        )

    def __len__(self):
        return len(self.flips_entered)

    def enter(self, stamp, flip):
        """Add a standing entry, or raise NoStamp(stamp), TooWide(needed), Taken(stamp) or TooMany(limit)."""
        if not is_stamp(stamp):
            raise NoStamp(stamp)
        check_fit(flip, self.start_board.size())
        if stamp in self.flips_entered:
            raise Taken(stamp)
        if len(self.flips_entered) >= MOST_ENTRIES:
            raise TooMany(MOST_ENTRIES)
        self.keep(stamp, flip, 0)

    def keep(self, stamp, flip, changes):
        """Have an entry with this count of changes; nothing is checked."""
        self.flips_entered[stamp] = flip
        self.change_counts[stamp] = changes

    def remove(self, stamp):
        """Remove the entry, or raise NoEntry(stamp) or Removed(stamp)."""
        if not self.stands(stamp):
            raise Removed(stamp)
        self.change_counts[stamp] += 1

    def restore(self, stamp):
        """Restore the entry, or raise NoEntry(stamp) or Standing(stamp)."""
        if self.stands(stamp):
            raise Standing(stamp)
        self.change_counts[stamp] += 1

    def start(self):
        """Return the start Board."""
        return self.start_board

    def board(self):
        """Return the Board after all standing entries."""
        return apply_flips(self.start_board, standing_flips(self, self.stamps()))

    def stamps(self):
        """Return the list of the stamps of all entries, ascending."""
        return sorted(list(self.flips_entered))

    def flip(self, stamp):
        """Return the Flip of the entry, or raise NoEntry(stamp)."""
        self.check_entry(stamp)
        return self.flips_entered[stamp]

    def stands(self, stamp):
        """Return whether the entry stands, or raise NoEntry(stamp)."""
        return self.changes(stamp) % 2 == 0

    def changes(self, stamp):
        """Return how often the entry was removed or restored, or raise NoEntry(stamp)."""
        self.check_entry(stamp)
        return self.change_counts[stamp]

    def copied(self):
        """Return an independent History in the same state."""
        twin = History(self.start_board)
        for stamp in self.stamps():
            twin.keep(stamp, self.flips_entered[stamp], self.change_counts[stamp])
        return twin

    def has_entry(self, stamp):
        """Return whether there is an entry with this stamp, for any value of stamp."""
        # A dict would take (5, "ann", False) for (5, "ann", 0), and it cannot look up a list.
        return is_stamp(stamp) and stamp in self.flips_entered

    def check_entry(self, stamp):
        """Raise NoEntry(stamp), for any value that is not the stamp of an entry."""
        if not self.has_entry(stamp):
            raise NoEntry(stamp)


def standing_flips(history, stamps):
    """Return the flips of those entries that stand, in the order of the stamps."""
    return [history.flip(stamp) for stamp in stamps if history.stands(stamp)]
