"""Programs pruned: what a dead function does is never seen, so it may be anything."""

from toldgraph.graphs import dead_functions
from toldgraph.programs import program_of


# What stands in a dead function's body goes with it, dead functions too.
def rows_without(program, dead):
    rows = []
    label = 0
    while label < len(program.rows):
        rows.append(program.rows[label])
        if label in dead:
            rows.append(("number", "0"))
            label = program.ends[label]
        else:
            label += 1
    return rows


# Answers how many functions were dead, and the program then.
def prune_dead(table):
    dead = dead_functions(table)
    return (len(dead), program_of(rows_without(table.program, dead)))
