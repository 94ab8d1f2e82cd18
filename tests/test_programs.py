"""Programs: procedures, parameters, bodies and steps."""

import copy
import itertools
import unittest
from unittest import mock

from checks import CheckCase
from paritycells import programs
from paritycells.boards import Board
from paritycells.errors import NoProcedure, NoProgram
from paritycells.programs import Program
from strange import NOT_CELLS, NOT_INTEGERS, NOT_LISTS, NOT_STAMPS, Thing

METHODS = ("names", "parameters", "body")
COPY = (("a", "b"), (("flip", ("a",), ("b",)),))
TWICE = (("a", "b"), (("times", 2, (("do", "copy", ("a", "b")),)),))
VALUES = NOT_LISTS + NOT_CELLS + NOT_INTEGERS + NOT_STAMPS + [0, 1, 5, mock.ANY, Board(3)]
# Twelve names, and a thirteenth.
LETTERS = "abcdefghijklm"
NOT_NAMES = [
    "", "A", "Copy", "copy1", "co py", "copy ", "abcdefghi", "a\n", "a_b", "1", None, True, False, 0, 1, ("a",), (),
    b"a", ("a", "b"), frozenset(["a"]), 10 ** 30, Ellipsis, object(), len, Thing(),
]


def with_body(body, parameters=("a", "b", "c")):
    """Return a dict with a procedure copy and a procedure main with this body."""
    return {"copy": COPY, "main": (parameters, body)}


def nested(deep, inner):
    """Return a body that stands around the inner body in as many "times" steps."""
    body = inner
    for index in range(deep):
        body = (("times", index, body),)
    return body


class ProgramCase(CheckCase):

    def wrong(self, why, where, procedures):
        """Expect NoProgram with these fields, and arguments that do not change."""
        with self.assertRaises(NoProgram) as caught:
            Program(procedures)
        self.assertIs(caught.exception.__class__, NoProgram)
        self.assertEqual(vars(caught.exception), {"why": why, "where": where})

    def wrong_step(self, why, step):
        """Expect this fault of a step that stands first, later, and in a repeated body."""
        flip = ("flip", ("a",), ("b",))
        self.wrong(why, "main", with_body((step,)))
        self.wrong(why, "main", with_body((flip, step, "no step")))
        self.wrong(why, "main", with_body((("times", 0, (flip, step)),)))
        self.wrong(why, "main", with_body(nested(4, (step,))))

    def fits(self, procedures):
        """Expect a program with exactly these procedures."""
        program = Program(procedures)
        self.assertEqual(program.names(), list(procedures))
        self.assertEqual(len(program), len(procedures))
        for name, (parameters, body) in procedures.items():
            self.assertEqual([program.parameters(name), program.body(name)], [parameters, body])
            self.assertEqual([program.parameters(name).__class__, program.body(name).__class__], [tuple, tuple])
        self.assertEqual(repr(program), f"Program({procedures!r})")
        return program


class Dict(ProgramCase):

    def test_not_a_dict(self):
        for thing in VALUES:
            if not isinstance(thing, dict):
                with self.subTest(repr(thing)):
                    self.wrong("dict", None, thing)
        self.wrong("dict", None, [("copy", COPY)])
        self.wrong("dict", None, (("copy", COPY),))
        self.wrong("dict", None, COPY)
        self.wrong("dict", None, Program({"copy": COPY}))

    def test_number_of_procedures(self):
        self.wrong("dict", None, {})
        self.fits({"copy": COPY})
        self.fits({name: COPY for name in LETTERS[:12]})
        self.wrong("dict", None, {name: COPY for name in LETTERS})
        self.wrong("dict", None, {number: None for number in range(13)})

    def test_arguments(self):
        self.takes(Program, "procedures")
        self.assertEqual(Program(procedures={"copy": COPY}), Program({"copy": COPY}))


class Names(ProgramCase):

    def test_names(self):
        for name in ("a", "z", "one", "copy", "flip", "do", "abcdefgh"):
            self.fits({name: COPY})

    def test_no_name(self):
        for key in NOT_NAMES:
            with self.subTest(repr(key)):
                for procedures in ({key: COPY}, {key: None}, {"copy": COPY, key: COPY}, {key: COPY, "copy": None}):
                    with self.assertRaises(NoProgram) as caught:
                        Program(procedures)
                    self.assertEqual(caught.exception.why, "name")
                    self.assertIs(caught.exception.where, key)

    def test_a_procedure_called_one(self):
        body = (("do", "one", ("a", "b")), ("undo", "one", ("b", "a")))
        program = self.fits({"one": COPY, "main": (("a", "b"), body)})
        self.assertEqual(program.names(), ["one", "main"])

    def test_the_first_item_decides(self):
        self.wrong("procedure", "copy", {"copy": None, 5: COPY})
        self.wrong("name", 5, {5: COPY, "copy": None})
        self.wrong("step", "a", {"a": ((), (None,)), "b": None, "C": None})
        self.wrong("parameters", "b", {"a": COPY, "b": ([], ()), "C": None})


class Procedure(ProgramCase):

    def test_not_a_tuple_of_two(self):
        for thing in VALUES + [list(COPY), COPY[:1], COPY + ((),), (COPY,), "ab", {"a": 1, "b": 2}]:
            if not isinstance(thing, tuple) or len(thing) != 2:
                with self.subTest(repr(thing)):
                    self.wrong("procedure", "main", {"main": thing})
                    self.wrong("procedure", "main", {"copy": COPY, "main": thing, "more": None})

    def test_the_least_procedure(self):
        self.fits({"main": ((), ())})

    def test_procedure_ahead_of_parameters(self):
        self.wrong("procedure", "main", {"main": (["a"], (), ())})


class Parameters(ProgramCase):

    def test_number(self):
        for many in range(9):
            self.fits({"main": (tuple(LETTERS[:many]), ())})
        for many in (9, 10, 13):
            self.wrong("parameters", "main", {"main": (tuple(LETTERS[:many]), ())})

    def test_not_a_tuple(self):
        for thing in VALUES + [["a", "b"], [], "a", "ab", {"a": 1}, {"a"}, None]:
            if not isinstance(thing, tuple):
                with self.subTest(repr(thing)):
                    self.wrong("parameters", "main", {"main": (thing, ())})

    def test_an_item_that_is_no_name(self):
        for wrong in NOT_NAMES + VALUES:
            if not (isinstance(wrong, str) and wrong == "a"):
                with self.subTest(repr(wrong)):
                    self.wrong("parameters", "main", {"main": ((wrong,), ())})
                    self.wrong("parameters", "main", {"main": (("b", wrong, "c"), None)})

    def test_the_name_one(self):
        self.wrong("parameters", "main", {"main": (("one",), ())})
        self.wrong("parameters", "main", {"main": (("a", "one", "b"), ())})
        self.fits({"main": (("ones", "on", "o"), ())})

    def test_a_name_twice(self):
        self.wrong("parameters", "main", {"main": (("a", "a"), ())})
        self.wrong("parameters", "main", {"main": (("a", "b", "c", "a"), ())})

    def test_parameters_ahead_of_body(self):
        self.wrong("parameters", "main", {"main": (("one",), None)})
        self.wrong("parameters", "main", {"main": (["a"], [])})


class Bodies(ProgramCase):

    def test_number_of_steps(self):
        step = ("flip", ("a",), ("b",))
        for many in (0, 1, 2, 19, 20):
            self.fits(with_body((step,) * many))
            self.fits(with_body((("times", 1, (step,) * many),)))
        for many in (21, 22, 40):
            self.wrong("body", "main", with_body((step,) * many))
            self.wrong("body", "main", with_body((("times", 1, (step,) * many),)))
            self.wrong("body", "main", with_body((None,) * many))

    def test_not_a_tuple(self):
        for thing in VALUES + [[("flip", ("a",), ("b",))], "", "flip", {}, None]:
            if not isinstance(thing, tuple):
                with self.subTest(repr(thing)):
                    self.wrong("body", "main", with_body(thing))
                    self.wrong("body", "main", with_body((("times", 3, thing),)))
                    self.wrong("body", "main", with_body(nested(4, thing)))

    def test_nested_four_and_five_deep(self):
        flip = ("flip", ("a",), ("b",))
        for deep in range(5):
            for inner in ((), (flip,), (flip, ("do", "copy", ("a", "b")))):
                self.fits(with_body(nested(deep, inner)))
                self.fits(with_body((flip,) + nested(deep, inner) + (flip,)))
        for deep in (5, 6, 9, 50):
            for inner in ((), (flip,), ("no step",), None):
                self.wrong("body", "main", with_body(nested(deep, inner)))

    def test_bodies_beside_each_other(self):
        self.fits(with_body(nested(4, ()) + nested(4, ()) + nested(3, nested(1, ()) + nested(1, ()))))
        self.wrong("body", "main", with_body(nested(4, ()) + nested(3, nested(1, ()) + nested(2, ()))))

    def test_an_earlier_step_ahead_of_a_later_body(self):
        self.wrong("step", "main", with_body((None,) + nested(5, ())))
        self.wrong("body", "main", with_body(nested(5, ()) + (None,)))
        self.wrong("odd", "main", with_body((("times", 1, (("flip", ("a",), ("a",)),)), ("times", 1, []))))


class Steps(ProgramCase):

    def test_other_values(self):
        for thing in VALUES + NOT_NAMES + [[], (), ["flip", ("a",), ("b",)], "flip", ("flip",), ("flip", ("a",))]:
            with self.subTest(repr(thing)):
                self.wrong_step("step", thing)

    def test_lengths(self):
        for step in (
            ("flip", ("a",), ("b",)), ("do", "copy", ("a", "b")), ("undo", "copy", ("a", "b")), ("times", 2, ()),
        ):
            self.fits(with_body((step,)))
            for wrong in (step[:0], step[:1], step[:2], step + ((),), step + (1, 2), list(step)):
                self.wrong_step("step", wrong)

    def test_first_words(self):
        for word in VALUES + NOT_NAMES + ["Flip", "flips", "undo ", "time", "redo", "call", ("flip",), ["flip"]]:
            with self.subTest(repr(word)):
                self.wrong_step("step", (word, ("a",), ("b",)))
                self.wrong_step("step", (word, "copy", ("a", "b")))
                self.wrong_step("step", (word, 2, ()))


class FlipSteps(ProgramCase):

    def test_flips(self):
        for tested, toggled in (
            ((), ()), (("a",), ()), ((), ("a",)), (("one",), ("a",)), (("a", "one"), ("b", "c")),
            (("a", "b"), ("b", "a")), (("c", "b", "a"), ("a", "b")), (("one",), ()),
        ):
            self.fits(with_body((("flip", tested, toggled),)))

    def test_parts_that_are_no_tuples(self):
        for thing in VALUES + [["a"], [], "a", "ab", {"a": 1}, {"a"}]:
            if not isinstance(thing, tuple):
                with self.subTest(repr(thing)):
                    self.wrong_step("step", ("flip", thing, ("b",)))
                    self.wrong_step("step", ("flip", ("a",), thing))

    def test_items_that_are_no_parameters(self):
        for wrong in NOT_NAMES + VALUES + ["d", "copy", "main", "ab", ("a",), ["a"]]:
            if not (isinstance(wrong, str) and wrong == "a"):
                with self.subTest(repr(wrong)):
                    self.wrong_step("step", ("flip", (wrong,), ("b",)))
                    self.wrong_step("step", ("flip", ("c", wrong), ("b",)))
                    self.wrong_step("step", ("flip", ("c",), (wrong,)))
                    self.wrong_step("step", ("flip", ("c",), ("b", wrong)))

    def test_one_is_not_toggled(self):
        self.wrong_step("step", ("flip", ("a",), ("one",)))
        self.wrong_step("step", ("flip", ("one",), ("one",)))
        self.wrong_step("step", ("flip", (), ("a", "one")))

    def test_a_name_twice(self):
        for names in (("a", "a"), ("a", "b", "a")):
            self.wrong_step("step", ("flip", names, ("c",)))
            self.wrong_step("step", ("flip", ("c",), names))
        self.wrong_step("step", ("flip", ("one", "one"), ("c",)))

    def test_parameters_of_another_procedure(self):
        self.wrong("step", "more", {"main": (("a", "b"), ()), "more": (("c",), (("flip", ("a",), ("c",)),))})
        self.wrong("step", "main", {"main": ((), (("flip", ("a",), ()),))})

    def test_odd(self):
        for tested, toggled in (
            (("a",), ("a",)), (("a", "b"), ("b", "c")), (("a", "b", "c"), ("c", "b", "a")), (("a", "one"), ("a",)),
        ):
            self.wrong_step("odd", ("flip", tested, toggled))

    def test_step_ahead_of_odd(self):
        self.wrong_step("step", ("flip", ("a", "a"), ("a",)))
        self.wrong_step("step", ("flip", ("a",), ("a", "d")))
        self.wrong_step("step", ("flip", ("a", "one"), ("one",)))


class CallSteps(ProgramCase):

    def test_calls(self):
        for word in ("do", "undo"):
            for arguments in itertools.permutations(("a", "b", "c"), 2):
                self.fits(with_body(((word, "copy", arguments),)))
            self.fits({"none": ((), ()), "main": (("a",), ((word, "none", ()),))})
            eight = tuple(LETTERS[:8])
            self.fits({"many": (eight, ()), "main": (eight, ((word, "many", eight[::-1]),))})

    def test_a_second_item_that_is_no_name(self):
        for wrong in NOT_NAMES + VALUES:
            if not (isinstance(wrong, str) and wrong == "a"):
                for word in ("do", "undo"):
                    with self.subTest(repr(wrong)):
                        self.wrong_step("step", (word, wrong, ("a", "b")))

    def test_a_third_item_that_is_no_tuple(self):
        for wrong in VALUES + [["a", "b"], "ab", {"a": 1, "b": 2}]:
            if not isinstance(wrong, tuple):
                for word, name in itertools.product(("do", "undo"), ("copy", "none")):
                    with self.subTest(repr(wrong)):
                        self.wrong_step("step", (word, name, wrong))

    def test_arguments_that_are_no_distinct_parameters(self):
        for word, name in itertools.product(("do", "undo"), ("copy", "none")):
            for wrong in (("a", "a"), ("a", "d"), ("a", "one"), ("one", "a"), ("a", "copy"), ("a", None), ("a", ["b"]),
                          ("a", True), ("a", ("b",)), (0, 1), ("a", mock.ANY)):
                self.wrong_step("step", (word, name, wrong))

    def test_no_such_procedure(self):
        for word, name in itertools.product(("do", "undo"), ("none", "copi", "flip", "one", "abcdefgh")):
            self.wrong_step("call", (word, name, ("a", "b")))
            self.wrong_step("call", (word, name, ()))

    def test_itself_and_one_that_stands_later(self):
        for word in ("do", "undo"):
            self.wrong_step("call", (word, "main", ("a", "b", "c")))
            later = {"main": (("a", "b"), ((word, "copy", ("a", "b")),)), "copy": COPY}
            self.wrong("call", "main", later)
            self.fits({"copy": COPY, "main": later["main"]})

    def test_another_number_of_parameters(self):
        for word, arguments in itertools.product(("do", "undo"), ((), ("a",), ("a", "b", "c"))):
            self.wrong_step("call", (word, "copy", arguments))

    def test_the_first_step_decides(self):
        self.wrong("call", "main", with_body((("do", "none", ()), ("flip", ("a",), ("a",)))))
        self.wrong("odd", "main", with_body((("flip", ("a",), ("a",)), ("do", "none", ()))))


class TimesSteps(ProgramCase):

    def test_counts(self):
        for count in (0, 1, 2, 10 ** 18, 10 ** 30 - 1, 10 ** 30):
            self.fits(with_body((("times", count, ()),)))

    def test_other_counts(self):
        for count in NOT_INTEGERS + [-1, -10 ** 30, 10 ** 30 + 1, 10 ** 31, True, False, "2", mock.ANY]:
            with self.subTest(repr(count)):
                self.wrong_step("step", ("times", count, ()))
                self.wrong("step", "main", with_body((("times", count, None),)))

    def test_the_count_ahead_of_the_body(self):
        self.wrong("step", "main", with_body((("times", -1, []),)))
        self.wrong("step", "main", with_body(nested(4, (("times", True, ()),))))
        self.wrong("body", "main", with_body(nested(4, (("times", 1, ()),))))

    def test_a_body_done_no_times_is_checked(self):
        self.wrong("step", "main", with_body((("times", 0, (None,)),)))
        self.wrong("call", "main", with_body((("times", 0, (("do", "main", ("a", "b", "c")),)),)))


class Asked(ProgramCase):

    def test_order(self):
        names = list("zayxbw")
        program = Program({name: COPY for name in names})
        self.assertEqual(program.names(), names)
        self.assertIs(program.names().__class__, list)

    def test_no_procedure(self):
        program = Program({"copy": COPY, "twice": TWICE, "one": COPY})
        for name in VALUES + NOT_NAMES + ["cop", "copyy", "a", "none", ["copy"], ("copy",), b"copy"]:
            for call in (program.parameters, program.body):
                with self.subTest(repr(name)):
                    with self.assertRaises(NoProcedure) as caught:
                        call(name)
                    self.assertIs(caught.exception.name, name)
                    self.assertEqual(list(vars(caught.exception)), ["name"])

    def test_a_dict_that_is_changed_afterwards(self):
        procedures = {"copy": COPY, "twice": TWICE}
        program = Program(procedures)
        self.assertEqual(procedures, {"copy": COPY, "twice": TWICE})
        procedures["more"] = COPY
        procedures["copy"] = ((), ())
        del procedures["twice"]
        self.assertEqual([program.names(), len(program)], [["copy", "twice"], 2])
        self.assertEqual([program.parameters("copy"), program.body("twice")], [("a", "b"), TWICE[1]])

    def test_a_returned_list_that_is_changed(self):
        program = Program({"copy": COPY, "twice": TWICE})
        program.names().clear()
        program.names().append("more")
        self.assertEqual([program.names(), len(program)], [["copy", "twice"], 2])

    def test_a_wrong_dict_is_unchanged(self):
        procedures = {"copy": COPY, "main": (["a"], [("flip",)])}
        kept = copy.deepcopy(procedures)
        self.wrong("parameters", "main", procedures)
        self.assertEqual(procedures, kept)

    def test_arguments(self):
        program = Program({"copy": COPY})
        self.takes(program.names)
        self.takes(program.parameters, "name")
        self.takes(program.body, "name")
        self.assertEqual([program.parameters(name="copy"), program.body(name="copy")], list(COPY))


class Compared(ProgramCase):

    def test_repr(self):
        for procedures in ({"copy": COPY}, {"copy": COPY, "twice": TWICE}, with_body(nested(4, ()))):
            program = Program(procedures)
            self.assertEqual(repr(program), "Program(" + repr(procedures) + ")")
            self.assertEqual(eval(repr(program)), program)
        self.assertEqual(repr(Program({"a": ((), ())})), "Program({'a': ((), ())})")

    def test_equal_exactly_if_procedures_and_their_order_are(self):
        every = [
            {"copy": COPY}, {"copi": COPY}, {"copy": TWICE[:1] + ((),)}, {"copy": (("a", "c"), ())},
            {"copy": COPY, "more": COPY}, {"more": COPY, "copy": COPY}, {"copy": COPY, "twice": TWICE},
            {"copy": (COPY[0], COPY[1] * 2)}, {"copy": (("b", "a"), COPY[1])},
            {"copy": ((), (("times", 1, ()),))}, {"copy": ((), (("times", 0, ()),))},
        ]
        pairs = [(procedures, Program(copy.deepcopy(procedures))) for procedures in every]
        for (one, first), (other, second) in itertools.product(pairs, repeat=2):
            same = list(one.items()) == list(other.items())
            self.assertIs(first == second, same)
            self.assertIs(first != second, not same)
            self.assertTrue(first == Program(one))

    def test_nothing_else(self):
        program = Program({"copy": COPY})
        others = [
            None, True, 1, {"copy": COPY}, [("copy", COPY)], "copy", repr(program), object(), Thing(), Program,
            Board(3),
            mock.ANY,
        ]
        for other in others:
            with self.subTest(repr(other)):
                self.assertIs(program == other, False)
                self.assertIs(program != other, True)

    def test_another_object_with_the_same_fields(self):
        program = Program({"copy": COPY})
        thing = Thing()
        vars(thing).update(vars(program))
        self.assertIs(program == thing, False)

    def test_len(self):
        for many in range(1, 13):
            self.assertEqual(len(Program({name: COPY for name in LETTERS[:many]})), many)


class Places(ProgramCase):

    def test_defined_in_this_file_and_class(self):
        self.assertEqual(programs.Program.__module__, "paritycells.programs")
        for name in METHODS + ("__eq__", "__len__", "__repr__"):
            self.assertIn(name, vars(Program))


if __name__ == "__main__":
    unittest.main()
