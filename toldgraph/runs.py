"""Runs of programs on inputs, and how they end.

A value is (what it is, ..): a number has the number behind it; a function its
label, and what the names around it are bound to; a pair both parts; a reference
where its contents are, so that it can come to hold itself.
"""

from toldgraph.sorts import FUNCTION, NUMBER, PAIR, REFERENCE
from toldgraph.texts import INPUT_NAME

MOST_STEPS = 300
INPUTS = 10

ENDED = 0
WRONG = 1
LONG = 2

# How many of its parts a node of each kind needs before it's known how to go on.
FIRST_PARTS = {
    "number": 0,
    "name": 0,
    "call": 2,
    "fun": 0,
    "let": 1,
    "if": 1,
    "pair": 2,
    "fst": 1,
    "snd": 1,
    "new": 1,
    "get": 1,
    "set": 2,
    "add": 2,
}


class StandsStill(Exception):
    def __init__(self, end):
        self.end = end


# What is still to be done is a row, as calls may be nested as deep as there are
# steps. A node stands there to be come to, and then again behind its first parts.
class Run:
    def __init__(self, program, number):
        self.program = program
        self.steps = 0
        self.contents = []
        self.given = []
        self.ahead = []
        self.plan(0, {INPUT_NAME: (NUMBER, number)})

    def plan(self, label, names):
        self.ahead.append((label, names, False))

    def plan_body(self, binder, names, value):
        inner = dict(names)
        inner[self.program.rows[binder][1]] = value
        self.plan(self.program.parts[binder][-1], inner)

    def give(self, value):
        self.given.append(value)

    def come_to(self, label, names):
        if self.steps == MOST_STEPS:
            raise StandsStill(LONG)
        self.steps += 1
        self.ahead.append((label, names, True))
        first_parts = self.program.parts[label][:FIRST_PARTS[self.program.kind(label)]]
        for part in reversed(first_parts):
            self.plan(part, names)

    # What a node's first parts gave, from left to right.
    def take(self, label):
        begin = len(self.given) - FIRST_PARTS[self.program.kind(label)]
        taken = self.given[begin:]
        self.given = self.given[:begin]
        return taken


def needed(value, what):
    if value[0] != what:
        raise StandsStill(WRONG)
    return value


def go_number(run, label, names, taken):
    run.give((NUMBER, int(run.program.rows[label][1])))


def go_name(run, label, names, taken):
    run.give(names[run.program.rows[label][1]])


def go_fun(run, label, names, taken):
    run.give((FUNCTION, label, names))


def go_call(run, label, names, taken):
    function = needed(taken[0], FUNCTION)
    run.plan_body(function[1], function[2], taken[1])


def go_let(run, label, names, taken):
    run.plan_body(label, names, taken[0])


def go_if(run, label, names, taken):
    chosen = 1 if needed(taken[0], NUMBER)[1] == 0 else 2
    run.plan(run.program.parts[label][chosen], names)


def go_pair(run, label, names, taken):
    run.give((PAIR, taken[0], taken[1]))


def go_fst(run, label, names, taken):
    run.give(needed(taken[0], PAIR)[1])


def go_snd(run, label, names, taken):
    run.give(needed(taken[0], PAIR)[2])


def go_new(run, label, names, taken):
    run.give((REFERENCE, len(run.contents)))
    run.contents.append(taken[0])


def go_get(run, label, names, taken):
    run.give(run.contents[needed(taken[0], REFERENCE)[1]])


def go_set(run, label, names, taken):
    run.contents[needed(taken[0], REFERENCE)[1]] = taken[1]
    run.give(taken[1])


def go_add(run, label, names, taken):
    total = needed(taken[0], NUMBER)[1] + needed(taken[1], NUMBER)[1]
    run.give((NUMBER, total % 100))


# How a node goes on when its first parts have given what they give.
GOES = {
    "number": go_number,
    "name": go_name,
    "call": go_call,
    "fun": go_fun,
    "let": go_let,
    "if": go_if,
    "pair": go_pair,
    "fst": go_fst,
    "snd": go_snd,
    "new": go_new,
    "get": go_get,
    "set": go_set,
    "add": go_add,
}


def go_to_the_end(run):
    while run.ahead:
        task = run.ahead.pop()
        label = task[0]
        if task[2]:
            go = GOES[run.program.kind(label)]
            go(run, label, task[1], run.take(label))
        else:
            run.come_to(label, task[1])


# The three numbers of how a run ends.
def end_of(run):
    try:
        go_to_the_end(run)
    except StandsStill as still:
        return [still.end, 0, 0]
    value = run.given[0]
    return [ENDED, value[0], value[1] if value[0] == NUMBER else 0]


def run_on(program, number):
    run = Run(program, number)
    end = end_of(run)
    return end + [run.steps]


# The first input on which a program isn't as good as the first one, None if it is.
def first_unlike(first, program):
    for number in range(INPUTS):
        end = end_of(Run(first, number))
        if end[0] != LONG and end_of(Run(program, number)) != end:
            return number
    return None
