"""Programs: procedures made of flips, calls and repeated bodies."""

from paritycells.cells import share_odd
from paritycells.errors import NoProcedure, NoProgram
from paritycells.integers import MOST_PASSES, is_integer_between
from paritycells.stamps import is_name

MOST_PROCEDURES = 12
MOST_PARAMETERS = 8
MOST_STEPS = 20
MOST_NESTED = 4

# The name that stands for cell 0 in every procedure.
ONE = "one"


class Program:
    """An immutable program; it keeps its procedures by their names, in order."""

    def __init__(self, procedures):
        if not isinstance(procedures, dict) or not 1 <= len(procedures) <= MOST_PROCEDURES:
            raise NoProgram("dict", None)
        self.kept = {}
        for name, procedure in procedures.items():
            why = fault_of(name, procedure, self.kept)
            if why is not None:
                raise NoProgram(why, name)
            self.kept[name] = procedure

    def __eq__(self, other):
        # Two dicts are equal in whatever order their keys stand.
        return isinstance(other, Program) and list(self.kept.items()) == list(other.kept.items())

    def __len__(self):
        return len(self.kept)

    def __repr__(self):
        return f"Program({self.kept!r})"

    def names(self):
        """Return the list of the names of the procedures, in order."""
        return list(self.kept)

    def parameters(self, name):
        """Return the parameters of the procedure, or raise NoProcedure(name)."""
        self.check_procedure(name)
        return self.kept[name][0]

    def body(self, name):
        """Return the body of the procedure, or raise NoProcedure(name)."""
        self.check_procedure(name)
        return self.kept[name][1]

    def check_procedure(self, name):
        """Raise NoProcedure(name), for any value that is not the name of a procedure."""
        # A dict cannot look up a list.
        if not is_name(name) or name not in self.kept:
            raise NoProcedure(name)


def fault_of(name, procedure, earlier):
    """Return why the item of a dict is not as it must be, or None; earlier holds the procedures before it."""
    if not is_name(name):
        return "name"
    if not isinstance(procedure, tuple) or len(procedure) != 2:
        return "procedure"
    parameters, body = procedure
    if not are_parameters(parameters):
        return "parameters"
    return fault_of_body(body, parameters, earlier, 0)


def fault_of_body(body, parameters, earlier, nested):
    """Return why the body is not as it must be, or None; nested says in how many "times" steps it stands."""
    if nested > MOST_NESTED or not isinstance(body, tuple) or len(body) > MOST_STEPS:
        return "body"
    for step in body:
        why = fault_of_step(step, parameters, earlier, nested)
        if why is not None:
            return why
    return None


def fault_of_step(step, parameters, earlier, nested):
    """Return why the step is not as it must be, or None."""
    if not is_step(step, parameters):
        return "step"
    word, first, second = step
    if word == "flip":
        return "odd" if share_odd(first, second) else None
    if word == "times":
        return fault_of_body(second, parameters, earlier, nested + 1)
    return None if can_call(first, second, earlier) else "call"


def is_step(thing, parameters):
    """Return whether thing has the form of a step, whatever it calls or repeats, for any value of thing."""
    if not isinstance(thing, tuple) or len(thing) != 3 or not isinstance(thing[0], str):
        return False
    word, first, second = thing
    if word == "flip":
        return are_names_among(first, parameters + (ONE,)) and are_names_among(second, parameters)
    if word in ("do", "undo"):
        return is_name(first) and are_names_among(second, parameters)
    return word == "times" and is_integer_between(first, 0, MOST_PASSES)


def can_call(name, arguments, earlier):
    """Return whether a procedure of this name stands earlier and has as many parameters."""
    return name in earlier and len(earlier[name][0]) == len(arguments)


def are_parameters(things):
    """Return whether things is a tuple of parameters, for any value of things."""
    return are_names(things) and len(things) <= MOST_PARAMETERS and ONE not in things


def are_names_among(things, allowed):
    """Return whether things is a tuple of distinct names, all of them allowed, for any value of things."""
    return are_names(things) and all([thing in allowed for thing in things])


def are_names(things):
    """Return whether things is a tuple of distinct names, for any value of things."""
    if not isinstance(things, tuple) or not all([is_name(thing) for thing in things]):
        return False
    return len(set(things)) == len(things)
