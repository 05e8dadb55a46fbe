"""Programs: rows whose nodes are known by their labels."""

from toldgraph.refusals import NotAProgram
from toldgraph.texts import INPUT_NAME, PARTS, rows_of, signs_of, text_of

# Stands where a label would: no node around, no binder, no function.
NOWHERE = -1

MOST_NODES = 30
MOST_AROUND = 8


def is_whole(rows):
    missing = 1
    for row in rows:
        if missing == 0:
            return False
        missing += PARTS[row[0]] - 1
    return missing == 0


def parents_of(rows):
    parents = []
    # Whose the parts that are still to come are, the nearest one last.
    waiting = [NOWHERE]
    for label, row in enumerate(rows):
        parents.append(waiting.pop())
        waiting.extend([label] * PARTS[row[0]])
    return parents


def parts_of(parents):
    parts = [[] for parent in parents]
    for label, parent in enumerate(parents):
        if parent != NOWHERE:
            parts[parent].append(label)
    return parts


# For each node, the first label behind all that's in it.
def ends_of(parts):
    ends = [0] * len(parts)
    for label in range(len(parts) - 1, -1, -1):
        ends[label] = ends[parts[label][-1]] if parts[label] else label + 1
    return ends


# For each node, the innermost function in whose body it stands.
def homes_of(rows, parents):
    homes = []
    for parent in parents:
        if parent == NOWHERE:
            homes.append(NOWHERE)
        elif rows[parent][0] == "fun":
            homes.append(parent)
        else:
            homes.append(homes[parent])
    return homes


class Program:
    def __init__(self, rows):
        self.rows = rows
        self.parents = parents_of(rows)
        self.parts = parts_of(self.parents)
        self.ends = ends_of(self.parts)
        self.homes = homes_of(rows, self.parents)
        self.binders = [self.binder_of(label) for label in range(len(rows))]

    def kind(self, label):
        return self.rows[label][0]

    def labels_of(self, kind):
        return [label for label, row in enumerate(self.rows) if row[0] == kind]

    def binder_of(self, label):
        if self.kind(label) != "name":
            return NOWHERE
        inner = label
        around = self.parents[label]
        while around != NOWHERE:
            if self.binds(around, inner) and self.rows[around][1] == self.rows[label][1]:
                return around
            inner = around
            around = self.parents[around]
        return NOWHERE

    def binds(self, around, inner):
        if self.kind(around) == "let":
            return inner == self.parts[around][1]
        return self.kind(around) == "fun"

    # The binders outside of a function that names in its body are bound by.
    def outer_binders(self, function):
        inside = self.binders[function:self.ends[function]]
        return sorted(set([binder for binder in inside if binder != NOWHERE and binder < function]))

    def how_many_around(self, label):
        around = 0
        while self.parents[label] != NOWHERE:
            label = self.parents[label]
            around += 1
        return around

    def is_unbound(self, label):
        row = self.rows[label]
        return row[0] == "name" and row[1] != INPUT_NAME and self.binders[label] == NOWHERE


def program_of(rows):
    if len(rows) > MOST_NODES or not is_whole(rows):
        raise NotAProgram()
    program = Program(rows)
    for label in range(len(rows)):
        if program.how_many_around(label) > MOST_AROUND or program.is_unbound(label):
            raise NotAProgram()
    return program


def read_program(numbers):
    text = signs_of(numbers)
    program = program_of(rows_of(text))
    if text_of(program.rows) != text:
        raise NotAProgram()
    return program
