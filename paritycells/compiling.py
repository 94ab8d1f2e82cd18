"""Compiling: what a call of a procedure does, without doing its flips one by one."""

from paritycells.cells import MOST_CELLS, are_cells, is_size
from paritycells.errors import NoCells, NoSize, TooMany
from paritycells.flips import Flip
from paritycells.powers import check_count, power_of
from paritycells.programs import ONE
from paritycells.sequences import reversed_flips
from paritycells.tables import Table, identity_table, table_of

MOST_FLIPS = 200


def flip_count(program, name):
    """Return how many flips a call of the procedure does, or raise NoProcedure(name)."""
    program.check_procedure(name)
    return flip_counts(program)[name]


def flip_counts(program):
    """Return the flip count of each procedure by its name."""
    counts = {}
    # Each procedure calls only earlier ones, whose counts are known by then.
    for name in program.names():
        counts[name] = count_of_body(program.body(name), counts)
    return counts


def count_of_body(body, counts):
    """Return how many flips the body does, with the counts of the procedures that it calls."""
    return sum([count_of_step(step, counts) for step in body])


def count_of_step(step, counts):
    """Return how many flips the step does, with the counts of the procedures that it calls."""
    word, first, second = step
    if word == "flip":
        return 1
    if word == "times":
        return first * count_of_body(second, counts)
    return counts[first]


def call_flips(program, name, cells, *, limit=MOST_FLIPS):
    """Return the list of the flips of a call, or raise NoProcedure, NoCells, NoCount or TooMany(limit)."""
    program.check_procedure(name)
    check_call(program, name, cells, MOST_CELLS)
    check_count(limit, 0, MOST_FLIPS)
    counts = flip_counts(program)
    if counts[name] > limit:
        raise TooMany(limit)
    return flips_of_call(program, name, cells, counts)


def flips_of_call(program, name, cells, counts):
    """Return the list of the flips of a call that is known to do few."""
    return flips_of_body(program, program.body(name), places_of(program.parameters(name), cells), counts)


def flips_of_body(program, body, places, counts):
    """Return the list of the flips of the body, with the cell of each name in places."""
    flips = []
    for step in body:
        # A step without flips may call or repeat what does none more often than anyone can wait for.
        if count_of_step(step, counts) > 0:
            flips.extend(flips_of_step(program, step, places, counts))
    return flips


def flips_of_step(program, step, places, counts):
    """Return the list of the flips of the step, with the cell of each name in places."""
    word, first, second = step
    if word == "flip":
        return [placed_flip(first, second, places)]
    if word == "times":
        return flips_of_body(program, second, places, counts) * first
    flips = flips_of_call(program, first, places_among(second, places), counts)
    return reversed_flips(flips) if word == "undo" else flips


def call_table(program, name, cells, *, size):
    """Return the Table of a call, or raise NoProcedure(name), NoSize(value) or NoCells(cells)."""
    program.check_procedure(name)
    if not is_size(size):
        raise NoSize(size)
    check_call(program, name, cells, size)
    return placed_table(parameter_tables(program)[name], cells, size)


def run_call(program, name, cells, *, board):
    """Return the Board after a call is done on the board, or raise NoProcedure(name) or NoCells(cells)."""
    return call_table(program, name, cells, size=board.size()).image(board)


def parameter_tables(program):
    """Return the Table of each procedure by its name, on a board with cell 0 and one cell for each parameter."""
    tables = {}
    for name in program.names():
        parameters = program.parameters(name)
        places = places_of(parameters, list(range(1, len(parameters) + 1)))
        tables[name] = table_of_body(program.body(name), places, tables)
    return tables


def table_of_body(body, places, tables):
    """Return the Table of the body, with the tables of the procedures that it calls."""
    table = identity_table(len(places))
    for step in body:
        table = table.then(table_of_step(step, places, tables))
    return table


def table_of_step(step, places, tables):
    """Return the Table of the step, with the tables of the procedures that it calls."""
    word, first, second = step
    if word == "flip":
        return table_of(len(places), [placed_flip(first, second, places)])
    if word == "times":
        return power_of(table_of_body(second, places, tables), first)
    called = placed_table(tables[first], places_among(second, places), len(places))
    return called.inverse() if word == "undo" else called


def placed_table(table, cells, size):
    """Return the Table of this size that does to these cells what the table does to its cells from 1 on."""
    homes = [0] + list(cells)
    rows = [[cell] for cell in range(size)]
    for cell, home in enumerate(homes):
        rows[home] = [homes[each] for each in table.row(cell)]
    return Table(rows)


def placed_flip(tested, toggled, places):
    """Return the Flip of the names, with the cell of each name in places."""
    return Flip(places_among(tested, places), places_among(toggled, places))


def places_of(parameters, cells):
    """Return the dict of the cells for which the parameters, and the name of cell 0, stand."""
    places = {ONE: 0}
    for parameter, cell in zip(parameters, cells):
        places[parameter] = cell
    return places


def places_among(names, places):
    """Return the list of the cells of the names."""
    return [places[name] for name in names]


def check_call(program, name, cells, size):
    """Raise NoCells(cells), for any value that is not a list of cells of this size to call the procedure with."""
    if not are_cells(cells, size) or 0 in cells or len(cells) != len(program.parameters(name)):
        raise NoCells(cells)
