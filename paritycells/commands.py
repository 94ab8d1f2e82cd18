"""Commands of a desk: their words, and the values that these stand for."""

from paritycells.texts import board_in, cells_in, flip_in, number_in

# What follows the first word of each command.
FORMS = {
    "new": ("word", "board"),
    "copy": ("word", "word"),
    "enter": ("word", "number", "word", "number", "flip"),
    "remove": ("word", "number", "word", "number"),
    "restore": ("word", "number", "word", "number"),
    "board": ("word",),
    "at": ("word", "number"),
    "today": ("word", "number", "word", "number"),
    "cells": ("word", "cells", "number"),
    "acted": ("word", "number", "word", "number"),
    "matters": ("word", "number", "word", "number", "number"),
    "depth": ("word",),
    "length": ("word",),
}


def values_in(command):
    """Return the first word of the command and the values of the others, or None, for any value of command."""
    if not isinstance(command, str):
        return None
    words = command.split(" ")
    if not all([is_word(word) for word in words]) or words[0] not in FORMS:
        return None
    kinds = FORMS[words[0]]
    if len(words) != len(kinds) + 1:
        return None
    values = [value_in(word, kind) for word, kind in zip(words[1:], kinds)]
    if any([value is None for value in values]):
        return None
    return [words[0]] + values


def is_word(text):
    """Return whether the string is a word: printable characters, at least one, and no space."""
    return text != "" and all(["!" <= letter <= "~" for letter in text])


def value_in(word, kind):
    """Return the value of the word, or None if it is not of this kind."""
    if kind == "number":
        return number_in(word)
    if kind == "flip":
        return flip_in(word)
    if kind == "cells":
        return cells_in(word)
    if kind == "board":
        return board_in(word)
    return word
