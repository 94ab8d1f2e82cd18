"""A plain model, bit by bit, and the boards, flips and tables that several test files go through."""

import itertools
import random

from checks import subsets
from paritycells.boards import Board
from paritycells.flips import Flip
from paritycells.histories import History

SIZES = range(1, 41)


def chance_for(*seed):
    """Return a source of the same choices in every run."""
    return random.Random(repr(seed))


def bits_of(board):
    """Return the states of the cells, 1 for up and 0 for down."""
    return [1 if board.is_up(cell) else 0 for cell in range(board.size())]


def board_of(bits):
    """Return the Board with these states."""
    return Board(len(bits), up=[cell for cell, bit in enumerate(bits) if bit == 1])


def bits_after(bits, flips):
    """Return the states after the flips are done one after another."""
    for flip in flips:
        odd = sum(bits[cell] for cell in flip.tested()) % 2
        bits = [1 - bit if odd and cell in flip.toggled() else bit for cell, bit in enumerate(bits)]
    return bits


def parity_of(bits, cells):
    """Return the parity of the cells."""
    return sum(bits[cell] for cell in cells) % 2


def all_bits(size):
    """Return the states of all boards of a size."""
    return [[1, *rest] for rest in itertools.product([0, 1], repeat=size - 1)]


def all_flips(size):
    """Return all flips of at most this width."""
    pairs = itertools.product(subsets(range(size)), subsets(range(1, size)))
    return [Flip(tested, toggled) for tested, toggled in pairs if len(set(tested) & set(toggled)) % 2 == 0]


def all_rows(size):
    """Return the rows of all tables of a size, as tuples, found without the package."""
    found = [[(0,)]]
    for cell in range(1, size):
        found = [rows + [row] for rows in found for row in subsets(range(size)) if not is_sum(row, rows)]
    return found


def is_sum(cells, rows):
    """Return whether the cells are the sum of some of the rows."""
    return any(sum_of(chosen) == set(cells) for chosen in subsets(rows))


def sum_of(rows):
    """Return the set of the cells that are in an odd number of the rows."""
    total = set()
    for row in rows:
        total = total ^ set(row)
    return total


def are_independent_rows(rows):
    """Return whether no nonempty selection of the rows adds up to the empty set."""
    return all(sum_of(chosen) for chosen in subsets(rows) if chosen)


def some_cells(chance, size):
    """Return some cells of a size."""
    return [cell for cell in range(size) if chance.random() < 0.5]


def some_bits(chance, size):
    """Return the states of some board."""
    return [1] + [chance.randrange(2) for cell in range(size - 1)]


def some_flip(chance, size):
    """Return some flip of at most this width."""
    tested = some_cells(chance, size)
    toggled = [cell for cell in some_cells(chance, size) if cell != 0]
    shared = [cell for cell in tested if cell in toggled]
    if len(shared) % 2 == 1:
        chance.choice([tested, toggled]).remove(chance.choice(shared))
    chance.shuffle(tested)
    return Flip(tested, toggled)


def some_flips(chance, size, many):
    """Return as many flips of at most this width."""
    return [some_flip(chance, size) for index in range(many)]


class Entries:
    """A plain model of a history: a dict of stamps with flip, state and count of changes."""

    def __init__(self, bits):
        self.bits = bits
        self.rows = {}

    def enter(self, stamp, flip):
        self.rows[stamp] = [flip, True, 0]

    def switch(self, stamp):
        self.rows[stamp][1] = not self.rows[stamp][1]
        self.rows[stamp][2] += 1

    def standing(self, wanted=lambda stamp: True):
        """Return the flips of the standing entries whose stamps are wanted, in order."""
        return [self.rows[stamp][0] for stamp in sorted(self.rows) if self.rows[stamp][1] and wanted(stamp)]

    def now(self):
        """Return the states after all standing entries."""
        return bits_after(self.bits, self.standing())


def some_stamp(chance):
    """Return some stamp, of few times, hands and numbers, so that equal times and hands occur."""
    return (chance.choice([0, 3, 5, 7, 10 ** 18]), chance.choice(["ann", "bob", "z"]), chance.randrange(4))


def some_history(chance, size, many):
    """Return a history with as many entries, some of them removed, and its model."""
    bits = some_bits(chance, size)
    history, model = History(board_of(bits)), Entries(bits)
    while len(model.rows) < many:
        stamp = some_stamp(chance) if many < 40 else (chance.randrange(100), "ann", chance.randrange(10 ** 6))
        if stamp not in model.rows:
            flip = some_flip(chance, size)
            history.enter(stamp, flip)
            model.enter(stamp, flip)
    for stamp in sorted(model.rows):
        for index in range(chance.choice([0, 0, 1, 2, 3])):
            switch_entry(history, stamp)
            model.switch(stamp)
    return history, model


def switch_entry(history, stamp):
    """Remove the entry if it stands, and restore it if it is removed."""
    if history.stands(stamp):
        history.remove(stamp)
    else:
        history.restore(stamp)


def rank_of_rows(rows):
    """Return how many of the rows can be independent at most, by elimination cell by cell."""
    left = [set(row) for row in rows]
    rank = 0
    for cell in range(40):
        holders = [row for row in left if cell in row]
        if holders:
            rank += 1
            left = [row for row in left if cell not in row] + [row ^ holders[0] for row in holders[1:]]
    return rank


def least_flips(size):
    """Return, for all tables of a size, their rows with the number of flips of a shortest sequence.

    It goes through all sequences, one flip more at a time.
    """
    flips = [flip for flip in all_flips(size) if not flip.is_idle()]
    start = tuple(frozenset([cell]) for cell in range(size))
    found = {start: 0}
    reached = [start]
    while reached:
        further = []
        for rows, flip in itertools.product(reached, flips):
            tested = sum_of(rows[cell] for cell in flip.tested())
            after = tuple(row ^ tested if cell in flip.toggled() else row for cell, row in enumerate(rows))
            if after not in found:
                found[after] = found[rows] + 1
                further.append(after)
        reached = further
    return found
