"""A plain model of programs: steps done one after another, and random programs to compare it with."""

from models import bits_after
from paritycells.flips import Flip

NAMES = ("a", "b", "c", "d", "e", "f", "g", "h")


def places_in(procedures, name, cells):
    """Return the cell of each parameter, and of the name one."""
    return {"one": 0, **dict(zip(procedures[name][0], cells))}


def flip_in(step, places):
    """Return the Flip of a step."""
    return Flip([places[name] for name in step[1]], [places[name] for name in step[2]])


def plain_flips(procedures, name, cells):
    """Return all flips of a call, expanded step by step."""
    return plain_body(procedures, procedures[name][1], places_in(procedures, name, cells))


def plain_body(procedures, body, places):
    flips = []
    for word, first, second in body:
        if word == "flip":
            flips += [flip_in((word, first, second), places)]
        elif word == "times":
            for index in range(first):
                flips += plain_body(procedures, second, places)
        else:
            called = plain_flips(procedures, first, [places[name] for name in second])
            flips += called if word == "do" else called[::-1]
    return flips


def plain_run(procedures, name, cells, bits, undone=False):
    """Return the states after a call; a repeated body is done until the states return, and then counted out."""
    return run_body(procedures, procedures[name][1], places_in(procedures, name, cells), bits, undone)


def run_body(procedures, body, places, bits, undone):
    for step in reversed(body) if undone else body:
        bits = run_step(procedures, step, places, bits, undone)
    return bits


def run_step(procedures, step, places, bits, undone):
    word, first, second = step
    if word == "flip":
        return bits_after(bits, [flip_in(step, places)])
    if word == "times":
        round_of_bits = [bits]
        while True:
            bits = run_body(procedures, second, places, round_of_bits[-1], undone)
            if bits == round_of_bits[0]:
                return round_of_bits[first % len(round_of_bits)]
            round_of_bits.append(bits)
    return plain_run(procedures, first, [places[name] for name in second], bits, undone != (word == "undo"))


def some_step(chance, parameters, earlier, counts, deep):
    """Return some step; deep says how many "times" may still stand inside."""
    word = chance.choice(["flip", "flip", "do", "undo", "times", "times"])
    if word == "times" and deep > 0:
        return ("times", chance.choice(counts), some_body(chance, parameters, earlier, counts, deep - 1))
    callable_names = [name for name in earlier if len(earlier[name][0]) <= len(parameters)]
    if word in ("do", "undo") and callable_names:
        name = chance.choice(callable_names)
        return (word, name, tuple(chance.sample(parameters, len(earlier[name][0]))))
    tested = [name for name in (*parameters, "one") if chance.random() < 0.5]
    toggled = [name for name in parameters if chance.random() < 0.5]
    shared = [name for name in tested if name in toggled]
    if len(shared) % 2 == 1:
        tested.remove(shared[0])
    chance.shuffle(tested)
    return ("flip", tuple(tested), tuple(toggled))


def some_body(chance, parameters, earlier, counts, deep):
    many = chance.choice([0, 1, 1, 2, 3])
    return tuple(some_step(chance, parameters, earlier, counts, deep) for index in range(many))


def some_procedures(chance, many, most_parameters, counts):
    """Return a dict of procedures that call each other and repeat bodies up to four deep."""
    procedures = {}
    for index in range(many):
        parameters = NAMES[:chance.randrange(most_parameters + 1)]
        steps = [some_step(chance, parameters, procedures, counts, 4) for place in range(chance.choice([1, 2, 3, 4]))]
        procedures["pqrstuvwxyz"[index]] = (parameters, tuple(steps))
    return procedures


def chain(first, many=12, calls=20, step=lambda name, parameters: ("do", name, parameters)):
    """Return procedures each of which calls the one before it as many times."""
    letters = "klmnopqrstuv"
    procedures = {letters[0]: first}
    parameters = first[0]
    for index in range(1, many):
        body = tuple(step(letters[index - 1], parameters) for place in range(calls))
        procedures[letters[index]] = (parameters, body)
    return procedures
