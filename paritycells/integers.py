"""What counts as an integer, for every file of the package."""


def is_integer_between(thing, low, high):
    """Return whether thing is an integer from low to high, for any value of thing."""
    # A bool is an int to Python, but True must never pass for 1.
    if isinstance(thing, bool) or not isinstance(thing, int):
        return False
    return low <= thing <= high
