"""Calls put in place: a let with the function's body instead of the call."""

from toldgraph.graphs import direct_to
from toldgraph.programs import NOWHERE, program_of
from toldgraph.refusals import CannotBePlaced, NoProgramComes, NotAProgram, TableTooLarge
from toldgraph.tables import table_of

MOST_PLACED = 6


def function_to_place(table, call):
    program = table.program
    function = direct_to(table, call)
    if function == NOWHERE or program.outer_binders(function):
        raise CannotBePlaced()
    if program.kind(program.parts[call][0]) not in ("name", "fun"):
        raise CannotBePlaced()
    return function


def rows_with_let(program, call, function):
    rows = program.rows
    argument = program.parts[call][1]
    let = [("let", rows[function][1])]
    own_part = rows[argument:program.ends[argument]]
    body = rows[function + 1:program.ends[function]]
    return rows[:call] + let + own_part + body + rows[program.ends[call]:]


def place_call(table, call):
    function = function_to_place(table, call)
    try:
        return program_of(rows_with_let(table.program, call, function))
    except NotAProgram:
        raise NoProgramComes() from None


# The program with the first call in place that can be, None if there is none.
def place_first(table):
    for call in table.program.labels_of("call"):
        try:
            return place_call(table, call)
        except CannotBePlaced:
            continue
        except NoProgramComes:
            continue
    return None


# Answers how many calls were put in place, and the program then.
def place_all(program, most):
    table = table_of(program, most)
    for placed in range(MOST_PLACED):
        after = place_first(table)
        if after is None:
            return (placed, table.program)
        try:
            table = table_of(after, most)
        except TableTooLarge:
            return (placed + 1, after)
    return (MOST_PLACED, table.program)
