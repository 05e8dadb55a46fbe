"""What a table tells of a program's calls and functions, and handed graphs.

An arrow is (a call's label, a function's label).
"""

from toldgraph.programs import NOWHERE
from toldgraph.refusals import NotAGraph
from toldgraph.sorts import FUNCTION
from toldgraph.tables import NODE


# What may be at a node in all strings together, as (what it is, its label).
def all_at(table, label):
    found = {}
    for string in table.strings_at(label):
        for sort in table.sorts_at((NODE, label, string)):
            found[(sort[0], sort[1])] = True
    return sorted(found)


# What may be at the node that gives a call its function.
def all_called(table, call):
    return all_at(table, table.program.parts[call][0])


# The function that a call is direct to, NOWHERE if it isn't direct.
def direct_to(table, call):
    found = all_called(table, call)
    if len(found) == 1 and found[0][0] == FUNCTION:
        return found[0][1]
    return NOWHERE


def direct_calls(table):
    arrows = [(call, direct_to(table, call)) for call in table.program.labels_of("call")]
    return [arrow for arrow in arrows if arrow[1] != NOWHERE]


def dead_functions(table):
    return [label for label in table.program.labels_of("fun") if label not in table.entered]


def arrows_of(table):
    arrows = []
    for call in table.program.labels_of("call"):
        for found in all_called(table, call):
            if found[0] == FUNCTION:
                arrows.append((call, found[1]))
    return arrows


def read_graph(numbers):
    if len(numbers) % 2 == 1 or any([number < 0 for number in numbers]):
        raise NotAGraph()
    return [(numbers[at], numbers[at + 1]) for at in range(0, len(numbers), 2)]


# The first of some arrows that others haven't, None if they have all.
def first_lacking(arrows, others):
    for arrow in arrows:
        if arrow not in others:
            return arrow
    return None
