"""Names, times, and the stamps that are made of them."""

from paritycells.integers import is_integer_between

MOST_TIME = 10 ** 18
MOST_NUMBER = 10 ** 18
MOST_LETTERS = 8


def is_name(thing):
    """Return whether thing is a NAME, for any value of thing."""
    if not isinstance(thing, str) or not 1 <= len(thing) <= MOST_LETTERS:
        return False
    return all(["a" <= letter <= "z" for letter in thing])


def is_time(thing):
    """Return whether thing is a time, for any value of thing."""
    return is_integer_between(thing, 0, MOST_TIME)


def is_stamp(thing):
    """Return whether thing is a stamp, for any value of thing."""
    if not isinstance(thing, tuple) or len(thing) != 3:
        return False
    time, hand, number = thing
    return is_time(time) and is_name(hand) and is_integer_between(number, 0, MOST_NUMBER)
