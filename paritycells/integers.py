"""What counts as an integer, and the greatest count, for every file of the package."""

MOST_PASSES = 10 ** 30


def is_integer(thing):
    """Return whether thing is an integer, for any value of thing."""
    # A bool is an int to Python, but True must never pass for 1.
    return isinstance(thing, int) and not isinstance(thing, bool)


def is_integer_between(thing, low, high):
    """Return whether thing is an integer from low to high, for any value of thing."""
    return is_integer(thing) and low <= thing <= high
