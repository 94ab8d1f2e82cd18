"""Texts of cells, flips and boards, and their reading."""

from paritycells.boards import Board
from paritycells.cells import MOST_CELLS, are_cells, cell_tuple, written_cells
from paritycells.errors import NoFlip, NoText
from paritycells.flips import Flip

DIGITS = "0123456789"
MOST_DIGITS = 30


def cells_text(cells):
    """Return the text of the cells, or raise NoCells(cells)."""
    return written_cells(cell_tuple(cells))


def flip_text(flip):
    """Return the text of the flip."""
    return str(flip)


def board_text(board):
    """Return the text of the board."""
    return str(board)


def read_cells(text):
    """Return the cells with this text, or raise NoText(0)."""
    cells = cells_in(text)
    if cells is None:
        raise NoText(0)
    return cells


def read_flip(text):
    """Return the Flip with this text, or raise NoText(0)."""
    flip = flip_in(text)
    if flip is None:
        raise NoText(0)
    return flip


def read_board(text):
    """Return the Board with this text, or raise NoText(0)."""
    board = board_in(text)
    if board is None:
        raise NoText(0)
    return board


def cells_in(text):
    """Return the cells with this text, or None, for any value of text."""
    if not isinstance(text, str):
        return None
    if text == "-":
        return ()
    cells = tuple([number_in(part) for part in text.split(",")])
    if not are_cells(cells, MOST_CELLS) or list(cells) != sorted(cells):
        return None
    return cells


def flip_in(text):
    """Return the Flip with this text, or None, for any value of text."""
    if not isinstance(text, str):
        return None
    sides = [cells_in(side) for side in text.split(">")]
    if len(sides) != 2 or sides[0] is None or sides[1] is None:
        return None
    try:
        return Flip(sides[0], sides[1])
    except NoFlip:
        return None


def board_in(text):
    """Return the Board with this text, or None, for any value of text."""
    if not isinstance(text, str) or not 1 <= len(text) <= MOST_CELLS:
        return None
    if text[0] != "1" or not all([state in "01" for state in text]):
        return None
    return Board(len(text), up=[cell for cell, state in enumerate(text) if state == "1"])


def number_in(text):
    """Return the integer that the string writes in decimal, without leading zeros and in few digits, or None."""
    if not 1 <= len(text) <= MOST_DIGITS or not all([digit in DIGITS for digit in text]):
        return None
    if text[0] == "0" and text != "0":
        return None
    return int(text)
