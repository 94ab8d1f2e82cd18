"""Names, times and stamps."""

import itertools
import string
import unittest

from checks import CheckCase
from paritycells import stamps
from paritycells.stamps import MOST_TIME, is_name, is_stamp, is_time
from strange import NOT_CELLS, NOT_INTEGERS, NOT_LISTS, knotted

GOOD_NAMES = ["a", "z", "m", "ann", "bob", "one", "abcdefgh", "zzzzzzzz", "az"]
BAD_NAMES = [
    "", "abcdefghi", "a" * 9, "a" * 100, "A", "Z", "Ann", "anN", "a1", "1", "1a", "a b", " a", "a ", " ", "a_b", "_",
    "a-b", "a\n", "\n", "a,", "`", "{", "a{", "`a", "abcdefg1", "abcdefgH", "abcdefgh\n", "abcdefgh ", "@a",
]
GOOD_NUMBERS = [0, 1, 2, 5, 999, 10 ** 9, 10 ** 18 - 1, 10 ** 18]
BAD_NUMBERS = [-1, -5, -10 ** 18, 10 ** 18 + 1, 10 ** 30, -10 ** 30, 10 ** 59]
VALUES = NOT_LISTS + NOT_CELLS + NOT_INTEGERS


class Names(CheckCase):

    def test_names(self):
        for thing in GOOD_NAMES:
            self.assertIs(is_name(thing), True, thing)

    def test_each_length(self):
        for many in range(12):
            self.assertIs(is_name("b" * many), 1 <= many <= 8)
            self.assertIs(is_name("abcdefghijklmnop"[:many]), 1 <= many <= 8)

    def test_each_character_at_each_place(self):
        for letter in string.printable:
            expected = letter in "abcdefghijklmnopqrstuvwxyz"
            for thing in (letter, letter + "b", "b" + letter, "bb" + letter + "bb", "bbbbbbb" + letter):
                self.assertIs(is_name(thing), expected, repr(thing))

    def test_other_strings(self):
        for thing in BAD_NAMES:
            self.assertIs(is_name(thing), False, repr(thing))

    def test_other_values(self):
        for thing in VALUES:
            self.assertIs(is_name(thing), isinstance(thing, str) and thing == "a", repr(thing))
        for thing in (["a"], ("a",), b"a", b"ann", {"a": 1}, {"a"}, ["a", "b"], (), 5):
            self.assertIs(is_name(thing), False, repr(thing))

    def test_arguments(self):
        self.takes(is_name, "thing")
        self.assertIs(is_name(thing="ann"), True)


class Times(CheckCase):

    def test_most_time(self):
        self.assertEqual(MOST_TIME, 1000000000000000000)
        self.assertIs(MOST_TIME.__class__, int)

    def test_integers(self):
        for thing in GOOD_NUMBERS:
            self.assertIs(is_time(thing), True, thing)
        for thing in BAD_NUMBERS:
            self.assertIs(is_time(thing), False, thing)

    def test_other_values(self):
        for thing in NOT_INTEGERS + ["5", "ann", (5, "ann", 0), [5]]:
            self.assertIs(is_time(thing), False, repr(thing))

    def test_arguments(self):
        self.takes(is_time, "thing")
        self.assertIs(is_time(thing=5), True)


class Stamps(CheckCase):

    def test_all_good_parts(self):
        for thing in itertools.product(GOOD_NUMBERS, GOOD_NAMES, GOOD_NUMBERS):
            self.assertIs(is_stamp(thing), True, thing)

    def test_a_wrong_part(self):
        for wrong in BAD_NUMBERS + NOT_INTEGERS:
            self.assertIs(is_stamp((wrong, "ann", 0)), False, repr(wrong))
            self.assertIs(is_stamp((5, "ann", wrong)), False, repr(wrong))
        for wrong in BAD_NAMES + NOT_CELLS + [0, 5, None, ["ann"], ("ann",), b"ann"]:
            self.assertIs(is_stamp((5, wrong, 0)), False, repr(wrong))

    def test_bools(self):
        for thing in itertools.product((True, False, 5), ("ann", True, False), (True, False, 0)):
            whole = [part.__class__ for part in thing] == [int, str, int]
            self.assertIs(is_stamp(thing), whole, thing)

    def test_lists(self):
        for thing in ([5, "ann", 0], [], [(5, "ann", 0)], [5, "ann"], ((5, "ann", 0),), ([5, "ann", 0],)):
            self.assertIs(is_stamp(thing), False, repr(thing))

    def test_one_part_more_or_fewer(self):
        whole = (5, "ann", 0)
        for thing in (whole[:0], whole[:1], whole[:2], whole[1:], (*whole, 0), (*whole, None), (*whole, "ann")):
            self.assertIs(is_stamp(thing), False, repr(thing))

    def test_parts_in_another_order(self):
        for thing in itertools.permutations((5, "ann", 0)):
            self.assertIs(is_stamp(thing), thing[1] == "ann")

    def test_other_values(self):
        for thing in VALUES + ["5 ann 0", "ann", 5, {5: "ann"}, {"a": 5, "b": "ann", "c": 0}, "abc", b"abc"]:
            self.assertIs(is_stamp(thing), False, repr(thing))
        self.assertIs(is_stamp((knotted(), "ann", 0)), False)

    def test_arguments(self):
        self.takes(is_stamp, "thing")
        self.assertIs(is_stamp(thing=(5, "ann", 0)), True)


class Places(CheckCase):

    def test_defined_in_this_file(self):
        for name in ("is_name", "is_time", "is_stamp"):
            self.assertEqual(getattr(stamps, name).__module__, "paritycells.stamps")


if __name__ == "__main__":
    unittest.main()
