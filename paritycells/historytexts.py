"""Texts of histories, and their reading."""

from paritycells.errors import NoText
from paritycells.histories import MOST_ENTRIES, History
from paritycells.stamps import is_stamp
from paritycells.texts import board_in, board_text, flip_in, flip_text, number_in

# The greatest count of changes that is read.
MOST_CHANGES = 1000


def history_text(history):
    """Return the text of the history."""
    lines = [f"start {board_text(history.start())}\n"]
    for stamp in history.stamps():
        lines.append(entry_line(stamp, history.flip(stamp), history.changes(stamp)))
    return "".join(lines)


def entry_line(stamp, flip, changes):
    """Return the line of an entry."""
    time, hand, number = stamp
    return f"entry {time} {hand} {number} {flip_text(flip)} {state_word(changes)} {changes}\n"


def state_word(changes):
    """Return the word for the state of an entry with this count of changes."""
    return "stands" if changes % 2 == 0 else "removed"


def read_history(text):
    """Return the History with this text, or raise NoText(line)."""
    if not isinstance(text, str):
        raise NoText(0)
    lines = text.split("\n")
    board = start_in(lines[0])
    if board is None:
        raise NoText(1)
    history = History(board)
    for number, line in enumerate(lines[1:-1], start=2):
        if not enter_line(history, line):
            raise NoText(number)
    # What stands behind the last line feed is a line without one, which is never right, be it the first.
    if lines[-1] != "":
        raise NoText(len(lines))
    return history


def start_in(line):
    """Return the start Board of the first line, or None."""
    words = line.split(" ")
    if len(words) != 2 or words[0] != "start":
        return None
    return board_in(words[1])


def enter_line(history, line):
    """Return whether the line is that of an entry that comes next in the history, and add it if it is."""
    entry = entry_in(line)
    if entry is None or len(history) >= MOST_ENTRIES:
        return False
    stamp, flip, changes = entry
    if flip.width() > history.start().size():
        return False
    stamps = history.stamps()
    if stamps and stamp <= stamps[-1]:
        return False
    history.keep(stamp, flip, changes)
    return True


def entry_in(line):
    """Return the stamp, the flip and the count of changes of the line of an entry, or None."""
    words = line.split(" ")
    if len(words) != 7 or words[0] != "entry":
        return None
    stamp = (number_in(words[1]), words[2], number_in(words[3]))
    flip = flip_in(words[4])
    changes = number_in(words[6])
    if not is_stamp(stamp) or flip is None or changes is None or changes > MOST_CHANGES:
        return None
    if words[5] != state_word(changes):
        return None
    return stamp, flip, changes
