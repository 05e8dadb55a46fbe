"""What a table tells of a program's calls, and calls put in place."""

from toldgraph.programs import NOWHERE, program_of
from toldgraph.refusals import CannotBePlaced, NoProgramComes, NotAProgram, TableTooLarge
from toldgraph.tables import FUNCTION, NODE, table_of

MOST_PLACED = 6


# What may be at a node in all strings together, as (what it is, its label).
def all_at(table, label):
    found = {}
    for string in table.strings_at(label):
        for sort in table.sorts_at((NODE, label, string)):
            found[(sort[0], sort[1])] = True
    return list(found)


# The function that a call is direct to, NOWHERE if it isn't direct.
def direct_to(table, call):
    found = all_at(table, table.program.parts[call][0])
    if len(found) == 1 and found[0][0] == FUNCTION:
        return found[0][1]
    return NOWHERE


def direct_calls(table):
    pairs = [(call, direct_to(table, call)) for call in table.program.labels_of("call")]
    return [pair for pair in pairs if pair[1] != NOWHERE]


def dead_functions(table):
    return [label for label in table.program.labels_of("fun") if label not in table.entered]


def function_to_place(table, call):
    program = table.program
    function = direct_to(table, call)
    if function == NOWHERE or program.outer_binders(function):
        raise CannotBePlaced()
    if program.kind(program.parts[call][0]) not in ("name", "fun"):
        raise CannotBePlaced()
    return function


def rows_with_let(program, call, function):
    rows = program.rows
    argument = program.parts[call][1]
    let = [("let", rows[function][1])]
    own_part = rows[argument:program.ends[argument]]
    body = rows[function + 1:program.ends[function]]
    return rows[:call] + let + own_part + body + rows[program.ends[call]:]


def place_call(table, call):
    function = function_to_place(table, call)
    try:
        return program_of(rows_with_let(table.program, call, function))
    except NotAProgram:
        raise NoProgramComes() from None


# The program with the first call in place that can be, None if there is none.
def place_first(table):
    for call in table.program.labels_of("call"):
        try:
            return place_call(table, call)
        except CannotBePlaced:
            continue
        except NoProgramComes:
            continue
    return None


# Answers how many calls were put in place, and the program then.
def place_all(program, most):
    table = table_of(program, most)
    for placed in range(MOST_PLACED):
        after = place_first(table)
        if after is None:
            return (placed, table.program)
        try:
            table = table_of(after, most)
        except TableTooLarge:
            return (placed + 1, after)
    return (MOST_PLACED, table.program)
