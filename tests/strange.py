"""Values of many kinds, for the arguments that are checked for any value."""


class Thing:
    """An object of no kind that the package knows."""


def knotted():
    """Return a list that contains itself."""
    knot = []
    knot.append(knot)
    return knot


# None of these is an integer.
NOT_INTEGERS = [
    None, True, False, "", "1", "a", b"", b"1", [], [1], [True], (), (1,), {}, {1: 2}, {1}, set(),
    frozenset(), [[1]], ((1,),), range(3), object(), Thing(), int, len, Ellipsis, knotted(),
]

# None of these is a list or a tuple.
NOT_LISTS = [
    None, True, False, 0, 1, -1, 10 ** 30, "", "1", "12", "1,2", b"", b"\x01", {}, {1: 2}, {1: 1, 2: 2},
    {1}, set(), frozenset([1]), range(3), iter([1]), object(), Thing(), list, len, Ellipsis,
]

# Each of these is a list or a tuple in which an item is no cell of any size.
LISTS_WITHOUT_CELLS = [
    [None], [True], [False], (True,), (False,), [1, True], [0, False], [True, 2], (2, True), ["1"], ["a"],
    [b"1"], [[1]], [(1,)], ([1],), ((1, 2),), [[]], [()], [{}], [{1: 2}], [{1}], [set()], [object()], [Thing()],
    [-1], (-1,), [1, -1], [40], (40,), [0, 40], [10 ** 30], [-10 ** 30], [1, None], [1, 2, "3"], [1, [2]],
    [[1], [2]], [[1], 2], [range(2)], knotted(),
]

# Each of these names a cell more than once.
LISTS_WITH_DUPLICATES = [[0, 0], (0, 0), [1, 1], (2, 2), [1, 2, 1], [3, 2, 1, 3], (39, 1, 39), [5] * 40]

NOT_CELLS = NOT_LISTS + LISTS_WITHOUT_CELLS + LISTS_WITH_DUPLICATES

# None of these is a stamp; some of them would be found in a dict as (5, "ann", 0) or (1, "ann", 0).
NOT_STAMPS = NOT_LISTS + NOT_CELLS + NOT_INTEGERS + [
    (5, "ann", False), (True, "ann", 0), (True, "ann", False), (5, True, 0), [5, "ann", 0], [(5, "ann", 0)],
    ([5], "ann", 0), (5, ["ann"], 0), (5, "ann", [0]), ([5, "ann", 0],), ((5, "ann", 0),), (5, "ann"), (5, "ann", 0, 0),
    ("ann", 5, 0), (5, "Ann", 0), (5, "", 0), (5, "abcdefghi", 0), (-1, "ann", 0), (10 ** 18 + 1, "ann", 0),
    (5, "ann", -1), (5, "ann", 10 ** 18 + 1), ("5", "ann", 0), (5, "ann", "0"), (5, b"ann", 0), (5, None, 0),
    (None, None, None), "5 ann 0", ({}, "ann", 0), (5, {}, 0), (5, "ann", {}), (5, "ann", {0}), (5, "ann", knotted()),
]
