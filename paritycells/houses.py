"""Houses: entries of several hands, received in any order and folded once all are known."""

from paritycells.errors import (
    Behind, Clash, Folded, NoEntries, NoHand, NoHands, NotHeard, NotOwn, TooMany,
)
from paritycells.flips import Flip, check_fit
from paritycells.histories import History
from paritycells.integers import is_integer
from paritycells.past import board_at, check_time, flips_until
from paritycells.shortest import shortest_flips
from paritycells.stamps import is_name, is_stamp
from paritycells.tables import identity_table, table_of

MOST_HANDS = 6
MOST_ENTRIES = 300

# The horizon, and the time that was heard, where there is none yet; every time is above it.
NEVER = -1


class House:
    """A house; its present is a history of the entries above the horizon, which starts at the base board."""

    def __init__(self, hands, board):
        if not are_hands(hands):
            raise NoHands(hands)
        self.own_hands = tuple(hands)
        self.start_board = board
        self.present = History(board)
        self.horizon_time = NEVER
        self.folded_table = identity_table(board.size())
        self.heard_times = {hand: NEVER for hand in hands}
        self.used_numbers = {hand: {} for hand in hands}

    def __eq__(self, other):
        return (
            isinstance(other, House)
            and self.own_hands == other.own_hands
            and self.start_board == other.start_board
            and self.horizon_time == other.horizon_time
            and self.folded_table == other.folded_table
            and self.present == other.present
        )

    def __len__(self):
        return len(self.present)

    def hands(self):
        """Return the list of the hands."""
        return list(self.own_hands)

    def start(self):
        """Return the start Board."""
        return self.start_board

    def base(self):
        """Return the Board up to which all was folded."""
        return self.present.start()

    def board(self):
        """Return the Board after all standing entries are done on the base board."""
        return self.present.board()

    def horizon(self):
        """Return the time up to which all was folded, or -1."""
        return self.horizon_time

    def entries(self):
        """Return the list of the entry tuples (stamp, flip, stands, changes), in ascending order of stamps."""
        kept = self.present
        return [(stamp, kept.flip(stamp), kept.stands(stamp), kept.changes(stamp)) for stamp in kept.stamps()]

    def act(self, hand, flip, *, time):
        """Add an entry and return its stamp, or raise NoHand, TooWide, NoTime, Behind(time) or TooMany(limit)."""
        self.check_hand(hand)
        check_fit(flip, self.start_board.size())
        check_time(time)
        if time <= self.horizon_time:
            raise Behind(time)
        self.check_room()
        stamp = (time, hand, self.free_number(hand))
        self.keep_entry(stamp, flip, 0)
        return stamp

    def remove(self, hand, stamp):
        """Remove an entry of the hand, or raise NoHand, NoEntry, NotOwn or Removed(stamp)."""
        self.check_own(hand, stamp)
        self.present.remove(stamp)

    def restore(self, hand, stamp):
        """Restore an entry of the hand, or raise NoHand, NoEntry, NotOwn or Standing(stamp)."""
        self.check_own(hand, stamp)
        self.present.restore(stamp)

    def receive(self, entries):
        """Receive all entry tuples, return how many changed the house, or raise the error of the first bad one."""
        if not isinstance(entries, (list, tuple)):
            raise NoEntries(-1)
        # A later item may be refused, so the house itself does not change before the last one.
        twin = self.copied()
        changed = 0
        for index, entry in enumerate(entries):
            if not is_entry(entry):
                raise NoEntries(index)
            if twin.receive_entry(entry):
                changed += 1
        self.present = twin.present
        self.used_numbers = twin.used_numbers
        return changed

    def receive_entry(self, entry):
        """Return whether the entry tuple changed the house, or raise TooWide, NoHand, Folded, Clash or TooMany."""
        stamp, flip, stands, changes = entry
        check_fit(flip, self.start_board.size())
        self.check_hand(stamp[1])
        if stamp[0] <= self.horizon_time:
            raise Folded(stamp)
        if not self.present.has_entry(stamp):
            self.check_room()
            self.keep_entry(stamp, flip, changes)
            return True
        if self.present.flip(stamp) != flip:
            raise Clash(stamp)
        if changes <= self.present.changes(stamp):
            return False
        self.keep_entry(stamp, flip, changes)
        return True

    def hear(self, hand, *, time):
        """Note that all of the hand up to the time was received, or raise NoHand(hand) or NoTime(time)."""
        self.check_hand(hand)
        check_time(time)
        self.heard_times[hand] = max(self.heard_times[hand], time)

    def heard(self, hand):
        """Return the greatest time up to which the house heard from the hand, or -1, or raise NoHand(hand)."""
        self.check_hand(hand)
        return self.heard_times[hand]

    def fold(self, *, time):
        """Fold all entries up to the time into the base board, or raise NoTime, Behind(time) or NotHeard(hand)."""
        check_time(time)
        if time <= self.horizon_time:
            raise Behind(time)
        for hand in self.own_hands:
            if self.heard_times[hand] < time:
                raise NotHeard(hand)
        done = table_of(self.start_board.size(), flips_until(self.present, time))
        self.folded_table = self.folded_table.then(done)
        self.present = history_above(self.present, time)
        self.horizon_time = time

    def folded(self):
        """Return a shortest sequence from the start board to the base board, for every start board."""
        return shortest_flips(self.folded_table)

    def copied(self):
        """Return an independent House in the same state."""
        twin = House(self.own_hands, self.start_board)
        twin.present = self.present.copied()
        twin.horizon_time = self.horizon_time
        twin.folded_table = self.folded_table
        twin.heard_times = dict(self.heard_times)
        twin.used_numbers = {hand: dict(self.used_numbers[hand]) for hand in self.own_hands}
        return twin

    def keep_entry(self, stamp, flip, changes):
        """Have an entry with this count of changes, and note its number for good; nothing is checked."""
        self.present.keep(stamp, flip, changes)
        time, hand, number = stamp
        self.used_numbers[hand][number] = True

    def free_number(self, hand):
        """Return the least number that no entry of the hand ever had here."""
        number = 0
        while number in self.used_numbers[hand]:
            number += 1
        return number

    def check_hand(self, hand):
        """Raise NoHand(hand), for any value that is not a hand of the house."""
        if not is_name(hand) or hand not in self.own_hands:
            raise NoHand(hand)

    def check_own(self, hand, stamp):
        """Raise NoHand(hand), NoEntry(stamp) or NotOwn(stamp) if it is not an entry of this hand."""
        self.check_hand(hand)
        self.present.check_entry(stamp)
        if stamp[1] != hand:
            raise NotOwn(stamp)

    def check_room(self):
        """Raise TooMany(limit) if there is no room for a new entry."""
        if len(self.present) >= MOST_ENTRIES:
            raise TooMany(MOST_ENTRIES)


def history_above(history, time):
    """Return a History that starts at the board at the time and has the entries with greater times."""
    later = History(board_at(history, time=time))
    for stamp in history.stamps():
        if stamp[0] > time:
            later.keep(stamp, history.flip(stamp), history.changes(stamp))
    return later


def are_hands(things):
    """Return whether things is a list of one to six distinct names, for any value of things."""
    if not isinstance(things, (list, tuple)) or not 1 <= len(things) <= MOST_HANDS:
        return False
    # Only names are known to fit into a set.
    return all([is_name(thing) for thing in things]) and len(set(things)) == len(things)


def is_entry(thing):
    """Return whether thing is an entry tuple, for any value of thing."""
    if not isinstance(thing, tuple) or len(thing) != 4:
        return False
    stamp, flip, stands, changes = thing
    if not is_stamp(stamp) or not isinstance(flip, Flip) or not isinstance(stands, bool):
        return False
    return is_integer(changes) and changes >= 0 and stands == (changes % 2 == 0)
