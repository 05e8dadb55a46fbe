"""The table of a program: which sorts may be where, and which bodies are come to.

A sort is (what it is, the label of what made it, the string in which it was
made). A place in a string is (group, label, string).
"""

from toldgraph.programs import NOWHERE
from toldgraph.refusals import TableTooLarge
from toldgraph.sorts import FUNCTION, PAIR, REFERENCE

MOST_FACTS = 400

NODE = "node"
BINDER = "binder"
FIRST = "first"
SECOND = "second"
CONTENTS = "contents"

NUMBER_SORT = (0, 0, ())


class Table:
    def __init__(self, program, most):
        self.program = program
        self.most = most
        self.sorts = {}
        self.entered = {}
        self.facts = 0

    def strings_at(self, label):
        home = self.program.homes[label]
        if home == NOWHERE:
            return [()]
        return list(self.entered.get(home, {}))

    def sorts_at(self, place):
        return list(self.sorts.get(place, {}))

    def those_at(self, place, what):
        return [sort for sort in self.sorts_at(place) if sort[0] == what]

    # A table only grows, so the first fact too many settles it.
    def note(self, row, fact):
        if fact in row:
            return
        row[fact] = True
        self.facts += 1
        if self.facts > MOST_FACTS:
            raise TableTooLarge()

    def put(self, place, sort):
        self.note(self.sorts.setdefault(place, {}), sort)

    def come_to(self, function, string):
        self.note(self.entered.setdefault(function, {}), string)

    def carry(self, source, target):
        for sort in self.sorts_at(source):
            self.put(target, sort)


def number_rule(table, label, string):
    table.put((NODE, label, string), NUMBER_SORT)


def name_rule(table, label, string):
    binder = table.program.binders[label]
    if binder == NOWHERE:
        number_rule(table, label, string)
    else:
        table.carry((BINDER, binder, string), (NODE, label, string))


def fun_rule(table, label, string):
    table.put((NODE, label, string), (FUNCTION, label, string))


def call_rule(table, label, string):
    function_part = table.program.parts[label][0]
    for sort in table.those_at((NODE, function_part, string), FUNCTION):
        call_one(table, label, string, sort)


def call_one(table, label, string, sort):
    function = sort[1]
    made_in = sort[2]
    argument = table.program.parts[label][1]
    body = table.program.parts[function][0]
    inner = ((label,) + string)[:table.most]
    table.come_to(function, inner)
    table.carry((NODE, argument, string), (BINDER, function, inner))
    for binder in table.program.outer_binders(function):
        table.carry((BINDER, binder, made_in), (BINDER, binder, inner))
    table.carry((NODE, body, inner), (NODE, label, string))


def let_rule(table, label, string):
    parts = table.program.parts[label]
    table.carry((NODE, parts[0], string), (BINDER, label, string))
    table.carry((NODE, parts[1], string), (NODE, label, string))


def if_rule(table, label, string):
    parts = table.program.parts[label]
    table.carry((NODE, parts[1], string), (NODE, label, string))
    table.carry((NODE, parts[2], string), (NODE, label, string))


def pair_rule(table, label, string):
    parts = table.program.parts[label]
    table.put((NODE, label, string), (PAIR, label, string))
    table.carry((NODE, parts[0], string), (FIRST, label, string))
    table.carry((NODE, parts[1], string), (SECOND, label, string))


def take_out(table, label, string, what, group):
    part = table.program.parts[label][0]
    for sort in table.those_at((NODE, part, string), what):
        table.carry((group, sort[1], sort[2]), (NODE, label, string))


def fst_rule(table, label, string):
    take_out(table, label, string, PAIR, FIRST)


def snd_rule(table, label, string):
    take_out(table, label, string, PAIR, SECOND)


def new_rule(table, label, string):
    part = table.program.parts[label][0]
    table.put((NODE, label, string), (REFERENCE, label, string))
    table.carry((NODE, part, string), (CONTENTS, label, string))


def get_rule(table, label, string):
    take_out(table, label, string, REFERENCE, CONTENTS)


def set_rule(table, label, string):
    parts = table.program.parts[label]
    table.carry((NODE, parts[1], string), (NODE, label, string))
    for sort in table.those_at((NODE, parts[0], string), REFERENCE):
        table.carry((NODE, parts[1], string), (CONTENTS, sort[1], sort[2]))


RULES = {
    "number": number_rule,
    "name": name_rule,
    "call": call_rule,
    "fun": fun_rule,
    "let": let_rule,
    "if": if_rule,
    "pair": pair_rule,
    "fst": fst_rule,
    "snd": snd_rule,
    "new": new_rule,
    "get": get_rule,
    "set": set_rule,
    "add": number_rule,
}


def go_round(table):
    for label in range(len(table.program.rows)):
        rule = RULES[table.program.kind(label)]
        for string in table.strings_at(label):
            rule(table, label, string)


# Rules only add what is needed, so the table at rest is the least one.
def table_of(program, most):
    table = Table(program, most)
    before = -1
    while table.facts > before:
        before = table.facts
        go_round(table)
    return table
