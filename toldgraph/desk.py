"""The calls on one object, handed in and answered as lists of whole numbers."""

from toldgraph.graphs import arrows_of, dead_functions, direct_calls, first_lacking, read_graph
from toldgraph.placing import place_all, place_call
from toldgraph.programs import program_of, read_program
from toldgraph.pruning import prune_dead
from toldgraph.refusals import NoSuchNode, NotACall, NotALength, NotAnInput, Refusal
from toldgraph.runs import INPUTS, first_unlike, run_on
from toldgraph.tables import table_of
from toldgraph.texts import bytes_of, text_of


class Desk:
    def __init__(self):
        self.first = program_of([("number", "0")])
        self.program = self.first
        self.most = 1

    def how_many_nodes(self):
        return len(self.program.rows)

    def table(self):
        return table_of(self.program, self.most)


def answer_program(desk, given):
    program = read_program(given)
    desk.first = program
    desk.program = program
    return [desk.how_many_nodes()]


def answer_strings(desk, given):
    if given[0] not in (0, 1, 2):
        raise NotALength()
    before = desk.most
    desk.most = given[0]
    return [before]


def answer_show(desk, given):
    text = bytes_of(text_of(desk.program.rows))
    return [len(text)] + text


def answer_direct(desk, given):
    arrows = direct_calls(desk.table())
    answer = [len(arrows)]
    for arrow in arrows:
        answer.extend(list(arrow))
    return answer


def answer_dead(desk, given):
    functions = dead_functions(desk.table())
    return [len(functions)] + functions


def answer_place(desk, given):
    label = given[0]
    if not 0 <= label < desk.how_many_nodes():
        raise NoSuchNode()
    if desk.program.kind(label) != "call":
        raise NotACall()
    desk.program = place_call(desk.table(), label)
    return [desk.how_many_nodes()]


def answer_placeall(desk, given):
    placed = place_all(desk.program, desk.most)
    desk.program = placed[1]
    return [placed[0], desk.how_many_nodes()]


def answer_prune(desk, given):
    pruned = prune_dead(desk.table())
    desk.program = pruned[1]
    return [pruned[0], desk.how_many_nodes()]


def answer_run(desk, given):
    if not 0 <= given[0] < INPUTS:
        raise NotAnInput()
    return run_on(desk.program, given[0])


def answer_same(desk, given):
    unlike = first_unlike(desk.first, desk.program)
    return [1] if unlike is None else [0, unlike]


def answer_handed(desk, given):
    handed = read_graph(given)
    told = arrows_of(desk.table())
    lacking = first_lacking(told, handed)
    if lacking is not None:
        return [0] + list(lacking)
    needless = first_lacking(handed, told)
    if needless is not None:
        return [1, 1] + list(needless)
    return [1, 0]


def answer_again(desk, given):
    desk.program = desk.first
    return [desk.how_many_nodes()]


def answer_size(desk, given):
    calls = desk.program.labels_of("call")
    return [len(desk.first.rows), desk.how_many_nodes(), desk.most, len(calls)]


# For each call its answer, and what stands behind its number.
CALLS = {
    0: (answer_program, "a row"),
    1: (answer_strings, "a number"),
    2: (answer_show, "nothing"),
    3: (answer_direct, "nothing"),
    4: (answer_dead, "nothing"),
    5: (answer_place, "a number"),
    6: (answer_placeall, "nothing"),
    7: (answer_prune, "nothing"),
    8: (answer_run, "a number"),
    9: (answer_same, "nothing"),
    10: (answer_handed, "a row"),
    11: (answer_again, "nothing"),
    12: (answer_size, "nothing"),
}


# Where what is given to the call at an index begins, and where it ends.
def given_between(calls, at):
    shape = CALLS[calls[at]][1]
    if shape == "a row":
        return (at + 2, at + 2 + calls[at + 1])
    if shape == "a number":
        return (at + 1, at + 2)
    return (at + 1, at + 1)


def answer_one(desk, number, given):
    answer = CALLS[number][0]
    try:
        return answer(desk, given)
    except Refusal as refusal:
        return [refusal.number]


def answers(calls):
    desk = Desk()
    answered = []
    at = 0
    while at < len(calls):
        bounds = given_between(calls, at)
        answer = answer_one(desk, calls[at], calls[bounds[0]:bounds[1]])
        answered.append(len(answer))
        answered.extend(answer)
        at = bounds[1]
    return answered
