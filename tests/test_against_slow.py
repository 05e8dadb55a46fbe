"""Random programs, held against a second, slower reading of the document.

Nothing of the package but its one function is used here: programs are nested
tuples, a table is one set of facts, and each rule is written down again.
"""

import random
import unittest

from tests.helper import (AGAIN, DEAD, DIRECT, PLACEALL, PRUNE, SAME, SHOW, SIZE, ask, handed, place, program, run, shown,
                          strings)

FORMS = {"fun": 1, "let": 2, "if": 3, "pair": 2, "fst": 1, "snd": 1, "new": 1, "get": 1, "set": 2, "add": 2}
SMALL = "abcdefghijklmnopqrstuvwxyz"


class Bad(Exception):
    pass


# Trees: ("num", n), ("name", x), ("fun", x, E), ("let", x, E, E), ("call", E, E), (form, E ..)

class Reader:
    def __init__(self, text):
        self.text = text
        self.at = 0
        self.nodes = 0

    def eat(self, piece):
        if not self.text.startswith(piece, self.at):
            raise Bad()
        self.at += len(piece)

    def word(self):
        begin = self.at
        while self.at < len(self.text) and self.text[self.at] not in "() ":
            self.at += 1
        return self.text[begin:self.at]

    def name(self):
        word = self.word()
        if word in FORMS or not 1 <= len(word) <= 4 or any(c not in SMALL for c in word):
            raise Bad()
        return word

    def expression(self, bound, around):
        self.nodes += 1
        if around > 8 or self.nodes > 30:
            raise Bad()
        if not self.text.startswith("(", self.at):
            begin = self.at
            word = self.word()
            if word in [str(n) for n in range(100)]:
                return ("num", int(word))
            self.at = begin
            if self.name() != "in" and word not in bound:
                raise Bad()
            return ("name", word)
        self.eat("(")
        begin = self.at
        form = self.word()
        if form not in FORMS:
            self.at = begin
            function = self.expression(bound, around + 1)
            self.eat(" ")
            tree = ("call", function, self.expression(bound, around + 1))
        elif form in ("fun", "let"):
            self.eat(" ")
            name = self.name()
            if name == "in":
                raise Bad()
            tree = (form, name)
            if form == "let":
                self.eat(" ")
                tree += (self.expression(bound, around + 1),)
            self.eat(" ")
            tree += (self.expression(bound | {name}, around + 1),)
        else:
            tree = (form,)
            for turn in range(FORMS[form]):
                self.eat(" ")
                tree += (self.expression(bound, around + 1),)
        self.eat(")")
        return tree


def read(text):
    reader = Reader(text)
    try:
        tree = reader.expression(frozenset(), 0)
    except Bad:
        return None
    return tree if reader.at == len(text) else None


def kids(tree):
    return [part for part in tree[1:] if isinstance(part, tuple)]


def written(tree):
    if tree[0] in ("num", "name"):
        return str(tree[1])
    words = [] if tree[0] == "call" else [tree[0]]
    words += [part if isinstance(part, str) else written(part) for part in tree[1:]]
    return "(" + " ".join(words) + ")"


class Nodes:
    """What is known of each label: its tree, its parts, its home, what names are bound by."""

    def __init__(self, tree):
        self.tree = []
        self.parts = []
        self.home = []
        self.scope = []
        self.walk(tree, None, {})

    def walk(self, tree, home, scope):
        label = len(self.tree)
        self.tree.append(tree)
        self.parts.append([])
        self.home.append(home)
        self.scope.append(scope)
        for which, kid in enumerate(kids(tree)):
            inner = dict(scope)
            if tree[0] == "fun" or (tree[0] == "let" and which == 1):
                inner[tree[1]] = label
            self.parts[label].append(self.walk(kid, label if tree[0] == "fun" else home, inner))
        return label

    def inside(self, label):
        found = [label]
        for part in self.parts[label]:
            found += self.inside(part)
        return found

    def outer(self, function):
        within = self.inside(function)
        used = {self.scope[n][self.tree[n][1]] for n in within if self.tree[n][0] == "name" and self.tree[n][1] != "in"}
        return used - set(within)


def facts_of(tree, k):
    """The table's facts, or None if they are more than 400."""
    nodes = Nodes(tree)
    facts = set()
    while True:
        more = set()
        for label, home in enumerate(nodes.home):
            comes = [()] if home is None else [fact[2] for fact in facts if fact[0] == "body" and fact[1] == home]
            for string in comes:
                more |= needs(nodes, k, facts, label, string)
        if more <= facts:
            return facts
        facts |= more
        if len(facts) > 400:
            return None


def needs(nodes, k, facts, label, string):
    def at(place, where):
        return [fact[3] for fact in facts if fact[0] == "at" and fact[1] == place and fact[2] == where]

    def gives(place, where, sorts):
        return {("at", place, where, sort) for sort in sorts}

    tree = nodes.tree[label]
    parts = nodes.parts[label]
    here = ("node", label)
    inner = [at(("node", part), string) for part in parts]
    kind = tree[0]
    if kind in ("num", "add") or tree == ("name", "in"):
        return gives(here, string, ["number"])
    if kind == "name":
        return gives(here, string, at(("binder", nodes.scope[label][tree[1]]), string))
    if kind == "fun":
        return gives(here, string, [("fun", label, string)])
    if kind == "let":
        return gives(("binder", label), string, inner[0]) | gives(here, string, inner[1])
    if kind == "if":
        return gives(here, string, inner[1] + inner[2])
    if kind == "pair":
        return (gives(here, string, [("pair", label, string)]) | gives(("fst", label), string, inner[0])
                | gives(("snd", label), string, inner[1]))
    if kind == "new":
        return gives(here, string, [("new", label, string)]) | gives(("get", label), string, inner[0])
    found = set()
    if kind == "set":
        found |= gives(here, string, inner[1])
    for sort in inner[0]:
        if kind in ("fst", "snd") and sort[0] == "pair" or kind == "get" and sort[0] == "new":
            found |= gives(here, string, at((kind, sort[1]), sort[2]))
        if kind == "set" and sort[0] == "new":
            found |= gives(("get", sort[1]), sort[2], inner[1])
        if kind == "call" and sort[0] == "fun":
            then = (((label,) + string) + ())[:k]
            found |= {("body", sort[1], then)} | gives(("binder", sort[1]), then, inner[1])
            for binder in nodes.outer(sort[1]):
                found |= gives(("binder", binder), then, at(("binder", binder), sort[2]))
            found |= gives(here, string, at(("node", nodes.parts[sort[1]][0]), then))
    return found


def direct_of(tree, facts):
    nodes = Nodes(tree)
    found = []
    for label, node in enumerate(nodes.tree):
        if node[0] == "call":
            sorts = {f[3] if f[3] == "number" else f[3][:2] for f in facts
                     if f[0] == "at" and f[1] == ("node", nodes.parts[label][0])}
            if len(sorts) == 1 and list(sorts)[0][0] == "fun":
                found.append((label, list(sorts)[0][1]))
    return found


def dead_of(tree, facts):
    bodies = {fact[1] for fact in facts if fact[0] == "body"}
    return [label for label, node in enumerate(Nodes(tree).tree) if node[0] == "fun" and label not in bodies]


def swapped(tree, label, other):
    """The tree with another one instead of the node with this label."""
    count = [-1]

    def go(node):
        count[0] += 1
        if count[0] == label:
            count[0] += len(Nodes(node).tree) - 1
            return other
        return tuple(go(part) if isinstance(part, tuple) else part for part in node)
    return go(tree)


def placed_of(tree, facts, label):
    """What place comes to: a refusal's number, or the tree then."""
    nodes = Nodes(tree)
    if not 0 <= label < len(nodes.tree):
        return -3
    if nodes.tree[label][0] != "call":
        return -5
    if facts is None:
        return -7
    function = dict(direct_of(tree, facts)).get(label)
    if function is None or nodes.tree[label][1][0] not in ("name", "fun") or nodes.outer(function):
        return -6
    fun = nodes.tree[function]
    then = swapped(tree, label, ("let", fun[1], nodes.tree[label][2], fun[2]))
    return then if read(written(then)) == then else -8


def placeall_of(tree, k):
    count = 0
    while count < 6:
        facts = facts_of(tree, k)
        if facts is None:
            return (count, tree) if count else -7
        comes = [placed_of(tree, facts, label) for label in range(len(Nodes(tree).tree))]
        comes = [then for then in comes if not isinstance(then, int)]
        if not comes:
            break
        tree = comes[0]
        count += 1
    return count, tree


def pruned_of(tree, facts):
    """The tree with 0 in all dead functions' bodies; the innermost are done first here."""
    for function in reversed(dead_of(tree, facts)):
        tree = swapped(tree, function, ("fun", Nodes(tree).tree[function][1], ("num", 0)))
    return tree


class Still(Exception):
    pass


class Running:
    """Values: an int; ("fun", tree, names); ("pair", first, second); ("ref", [contents])."""

    def __init__(self, tree, number):
        self.steps = 0
        try:
            value = self.go(tree, {"in": number})
            what = 0 if isinstance(value, int) else {"fun": 1, "pair": 2, "ref": 3}[value[0]]
            self.end = [0, what, 0 if what else value]
        except Still as still:
            self.end = [still.args[0], 0, 0]

    def need(self, held):
        if not held:
            raise Still(1)

    def go(self, tree, names):
        self.steps += 1
        if self.steps > 300:
            self.steps = 300
            raise Still(2)
        kind = tree[0]
        if kind == "num":
            return tree[1]
        if kind == "name":
            return names[tree[1]]
        if kind == "fun":
            return ("fun", tree, names)
        if kind == "let":
            return self.go(tree[3], {**names, tree[1]: self.go(tree[2], names)})
        value = self.go(tree[1], names)
        if kind == "if":
            self.need(isinstance(value, int))
            return self.go(tree[3] if value else tree[2], names)
        if kind == "new":
            return ("ref", [value])
        if kind in ("fst", "snd", "get"):
            self.need(not isinstance(value, int) and value[0] == ("ref" if kind == "get" else "pair"))
            return value[1][0] if kind == "get" else value[1] if kind == "fst" else value[2]
        other = self.go(tree[2], names)
        if kind == "pair":
            return ("pair", value, other)
        if kind == "add":
            self.need(isinstance(value, int) and isinstance(other, int))
            return (value + other) % 100
        self.need(not isinstance(value, int) and value[0] == ("ref" if kind == "set" else "fun"))
        if kind == "set":
            value[1][0] = other
            return other
        return self.go(value[1][2], {**value[2], value[1][1]: other})


def same_of(first, tree):
    for number in range(10):
        end = Running(first, number).end
        if end[0] != 2 and end != Running(tree, number).end:
            return [0, number]
    return [1]


def arrows_of(tree, facts):
    nodes = Nodes(tree)
    return sorted({(label, fact[3][1]) for label, node in enumerate(nodes.tree) if node[0] == "call" for fact in facts
                   if fact[0] == "at" and fact[1] == ("node", nodes.parts[label][0]) and fact[3][0] == "fun"})


def handed_of(tree, facts, graph):
    if len(graph) % 2 or min(graph, default=0) < 0:
        return [-4]
    if facts is None:
        return [-7]
    arrows = arrows_of(tree, facts)
    given = list(zip(graph[::2], graph[1::2]))
    lacking = [arrow for arrow in arrows if arrow not in given]
    needless = [arrow for arrow in given if arrow not in arrows]
    if lacking:
        return [0, *lacking[0]]
    return [1, 1, *needless[0]] if needless else [1, 0]


class Model:
    """One object, and what each call on it answers."""

    def __init__(self):
        self.first = self.tree = ("num", 0)
        self.k = 1

    def nodes(self):
        return len(Nodes(self.tree).tree)

    def answer(self, call):
        number = call[0]
        facts = facts_of(self.tree, self.k) if number in (3, 4, 5, 6, 7, 10) else None
        if number == 0:
            tree = read("".join(chr(byte) for byte in call[2:]))
            if tree is None:
                return [-1]
            self.first = self.tree = tree
            return [self.nodes()]
        if number == 1:
            if call[1] not in (0, 1, 2):
                return [-2]
            before, self.k = self.k, call[1]
            return [before]
        if number == 2:
            return [len(written(self.tree))] + [ord(sign) for sign in written(self.tree)]
        if number == 5:
            return self.change(placed_of(self.tree, facts, call[1]))
        if number == 8:
            if call[1] not in range(10):
                return [-2]
            running = Running(self.tree, call[1])
            return running.end + [running.steps]
        if number == 9:
            return same_of(self.first, self.tree)
        if number == 10:
            return handed_of(self.tree, facts, call[2:])
        if number == 11:
            return self.change(self.first)
        if number == 12:
            calls = sum(node[0] == "call" for node in Nodes(self.tree).tree)
            return [len(Nodes(self.first).tree), self.nodes(), self.k, calls]
        if facts is None:
            return [-7]
        if number == 3:
            arrows = direct_of(self.tree, facts)
            return [len(arrows)] + [label for arrow in arrows for label in arrow]
        dead = dead_of(self.tree, facts)
        if number == 4:
            return [len(dead)] + dead
        if number == 7:
            return [len(dead)] + self.change(pruned_of(self.tree, facts))
        then = placeall_of(self.tree, self.k)
        return [then[0]] + self.change(then[1])

    def change(self, then):
        if isinstance(then, int):
            return [then]
        self.tree = then
        return [self.nodes()]


class Maker:
    """Random programs; calls of bound names are frequent, so that tables have something to tell."""

    def __init__(self, seed):
        self.random = random.Random(seed)
        self.left = 0

    def program(self):
        while True:
            self.left = self.random.randrange(5, 31)
            tree = self.expression([], 0)
            if read(written(tree)) == tree:
                return tree

    def expression(self, bound, around):
        self.left -= 1
        pick = self.random
        if around == 8 or self.left <= 0 or pick.random() < 0.04 * around:
            if bound and pick.random() < 0.75:
                return ("name", pick.choice(bound[-3:]))
            return pick.choice([("num", pick.randrange(100)), ("name", "in"), ("fun", "z", ("name", "z"))])
        kind = pick.choice(["call"] * 5 + ["fun"] * 3 + ["let"] * 4 + sorted(FORMS))
        if kind == "fun":
            name = pick.choice("fgxy")
            return ("fun", name, self.expression(bound + [name], around + 1))
        if kind == "let":
            name = pick.choice("fgxy")
            own = self.expression(bound, around + 1)
            return ("let", name, own, self.expression(bound + [name], around + 1))
        if kind == "call" and bound and pick.random() < 0.6:
            self.left -= 1
            return ("call", ("name", pick.choice(bound[-3:])), self.expression(bound, around + 1))
        return (kind,) + tuple(self.expression(bound, around + 1) for turn in range(FORMS.get(kind, 2)))


class SoberMaker(Maker):
    """Random programs whose parts are mostly of the kinds that are needed, so that runs go far.

    Functions are of numbers, pairs of numbers; a cell is a reference to a number, a knot one to a function.
    """

    def program(self):
        while True:
            self.left = self.random.randrange(8, 31)
            tree = self.wanted(self.random.choice(["number"] * 6 + ["function", "pair", "cell"]), {}, 0)
            if read(written(tree)) == tree:
                return tree

    def wanted(self, kind, bound, around):
        self.left -= 1
        pick = self.random
        if pick.random() < 0.015:
            kind = pick.choice(["number", "function", "pair", "cell", "knot"])
        held = [("name", name) for name in bound if bound[name] == kind]
        if held and pick.random() < 0.5:
            return pick.choice(held)
        if around == 8 or self.left <= 0:
            plain = {"function": ("fun", "z", ("num", 7)), "pair": ("pair", ("num", 1), ("num", 2)),
                     "cell": ("new", ("num", 0)), "knot": ("new", ("fun", "z", ("name", "z")))}
            return plain.get(kind, pick.choice([("num", pick.randrange(100)), ("name", "in")]))

        def of(other, also=None):
            return self.wanted(other, {**bound, **(also or {})}, around + 1)

        if pick.random() < 0.3:
            name, own = pick.choice("fgxyz"), pick.choice(["number", "function", "function", "pair", "cell", "knot"])
            return ("let", name, of(own), of(kind, {name: own}))
        if pick.random() < 0.2:
            return ("if", of("number"), of(kind), of(kind))
        name = pick.choice("nm")
        ways = {
            "number": [lambda: ("call", of("function"), of("number")), lambda: ("add", of("number"), of("number")),
                       lambda: ("call", ("get", of("knot")), of("number")), lambda: ("get", of("cell")),
                       lambda: (pick.choice(["fst", "snd"]), of("pair")), lambda: ("set", of("cell"), of("number"))],
            "function": [lambda: ("fun", name, of("number", {name: "number"})), lambda: ("get", of("knot")),
                         lambda: ("set", of("knot"), of("function"))],
            "pair": [lambda: ("pair", of("number"), of("number"))],
            "cell": [lambda: ("new", of("number"))],
            "knot": [lambda: ("new", of("function"))],
        }
        return pick.choice(ways[kind])()


class LoopMaker(SoberMaker):
    """Programs that go round through a function held by a reference or given to itself, some of them for long."""

    def program(self):
        while True:
            self.left = self.random.randrange(3, 12)
            tree = self.random.choice([self.held, self.given_itself])()
            if read(written(tree)) == tree:
                return tree

    def around(self, once_more, bound, at):
        n, more = ("name", "n"), self.random.choice([99, 99, 98, 97, 90, 50, 1])
        again = ("call", once_more, ("add", n, ("num", more)))
        if self.random.random() < 0.5:
            again = ("add", self.wanted("number", bound, at + 2), again)
        return ("fun", "n", ("if", n, self.wanted("number", bound, at + 2), again))

    def held(self):
        knot = ("get", ("name", "r"))
        function = self.around(knot, {"n": "number", "r": "knot"}, 3)
        start = ("call", knot, self.wanted("number", {"r": "knot"}, 3))
        return ("let", "r", ("new", ("fun", "z", ("name", "z"))), ("let", "d", ("set", ("name", "r"), function), start))

    def given_itself(self):
        function = self.around(("call", ("name", "s"), ("name", "s")), {"n": "number"}, 2)
        start = ("call", ("call", ("name", "f"), ("name", "f")), self.wanted("number", {}, 2))
        return ("let", "f", ("fun", "s", function), start)


class Against(unittest.TestCase):
    def hold(self, tree, k):
        text = written(tree)
        facts = facts_of(tree, k)
        many = len(Nodes(tree).tree)
        told = ask(program(text), strings(k), SHOW, DIRECT, DEAD, SIZE)
        calls = sum(node[0] == "call" for node in Nodes(tree).tree)
        self.assertEqual(told[0], [many])
        self.assertEqual(shown(told[2]), text)
        self.assertEqual(told[5], [many, many, k, calls])
        if facts is None:
            self.assertEqual(told[3:5], [[-7], [-7]], text)
        else:
            direct = direct_of(tree, facts)
            dead = dead_of(tree, facts)
            self.assertEqual(told[3], [len(direct)] + [n for pair in direct for n in pair], text)
            self.assertEqual(told[4], [len(dead)] + dead, text)
        for label in range(-1, many + 1):
            self.hold_then(tree, k, place(label), placed_of(tree, facts, label), [])
        then = placeall_of(tree, k)
        if isinstance(then, int):
            self.hold_then(tree, k, PLACEALL, then, [])
        else:
            self.hold_then(tree, k, PLACEALL, then[1], [then[0]])

    def hold_then(self, tree, k, call, then, ahead):
        text = written(tree)
        told = ask(program(text), strings(k), call, SHOW)
        if isinstance(then, int):
            self.assertEqual((told[2], shown(told[3])), ([then], text))
        else:
            self.assertEqual((told[2], shown(told[3])), (ahead + [len(Nodes(then).tree)], written(then)), text)

    def test_random_programs(self):
        maker = Maker(20)
        for turn in range(150):
            tree = maker.program()
            for k in (0, 1, 2):
                with self.subTest(text=written(tree), k=k):
                    self.hold(tree, k)

    def hold_line(self, line):
        model = Model()
        told = ask(*line)
        for call, answer in zip(line, told):
            self.assertEqual(answer, model.answer(call), (call, written(model.tree)))
        return told

    def test_runs(self):
        ends = [0, 0, 0]
        longest = 0
        for maker, many in ((Maker(30), 200), (SoberMaker(31), 600), (LoopMaker(40), 300)):
            for turn in range(many):
                text = written(maker.program())
                with self.subTest(text=text):
                    told = self.hold_line([program(text)] + [run(number) for number in range(10)] + [SAME])
                    for answer in told[1:-1]:
                        ends[answer[0]] += 1
                        longest = max(longest, answer[3] if answer[0] < 2 else 0)
        # Else the programs would tell little.
        self.assertGreater(min(ends), 300)
        self.assertGreater(longest, 290)

    def test_prune(self):
        many = []
        for maker in (Maker(32), SoberMaker(33)):
            for turn in range(60):
                text = written(maker.program())
                for k in (0, 1, 2):
                    with self.subTest(text=text, k=k):
                        line = [program(text), strings(k), PRUNE, SHOW, DIRECT, DEAD, SAME, PRUNE, PLACEALL, PRUNE, SHOW, SAME]
                        many.append(self.hold_line(line)[2][0])
        self.assertGreater(sum(dead > 1 for dead in many), 50)

    def test_handed(self):
        pick = random.Random(34)
        firsts = [0, 0, 0]
        for maker in (Maker(35), SoberMaker(36)):
            for turn in range(60):
                tree = maker.program()
                for k in (0, 1, 2):
                    facts = facts_of(tree, k)
                    arrows = arrows_of(tree, facts) if facts is not None else [(0, 1)]
                    whole = [label for arrow in arrows for label in arrow]
                    with self.subTest(text=written(tree), k=k):
                        line = [program(written(tree)), strings(k), handed(), handed(*whole)]
                        for more in range(12):
                            line.append(handed(*self.graph(arrows, len(Nodes(tree).tree), pick)))
                        for answer in self.hold_line(line)[2:]:
                            firsts[0 if answer[0] == 0 else 1 if answer == [1, 0] else 2] += 1
        self.assertGreater(min(firsts), 100)

    def graph(self, arrows, nodes, pick):
        """Some arrows of a table, in some order, and perhaps some that are none of its."""
        given = [arrow for arrow in arrows if pick.random() < 0.9] + pick.sample(arrows, min(2, len(arrows)))
        pick.shuffle(given)
        for turn in range(pick.choice([0, 0, 1, 2])):
            given.insert(pick.randrange(len(given) + 1), (pick.randrange(nodes + 1), pick.randrange(nodes + 1)))
        numbers = [label for arrow in given for label in arrow][:100]
        if numbers and pick.random() < 0.1:
            numbers[pick.randrange(len(numbers))] = pick.choice([-1, 10 ** 18, -10 ** 18])
        return numbers[1:] if pick.random() < 0.05 else numbers

    def test_lines_of_twenty_calls(self):
        pick = random.Random(37)
        makers = (Maker(38), SoberMaker(39), LoopMaker(41))
        for turn in range(300):
            numbers = list(range(13)) + [0, 0, 5, 5, pick.randrange(13), pick.randrange(13), pick.randrange(13)]
            pick.shuffle(numbers)
            model = Model()
            line = []
            expected = []
            for number in numbers:
                line.append(self.call(number, model, pick, makers))
                expected.append(model.answer(line[-1]))
            with self.subTest(line=line):
                self.assertEqual(ask(*line), expected)

    def call(self, number, model, pick, makers):
        """A call that has mostly something to do with the program that a model has then."""
        if number == 0:
            text = written(pick.choice(makers).program())
            return program(text if pick.random() < 0.85 else text[:-1] + "?")
        if number == 1:
            return strings(pick.choice([0, 1, 2, 2, 3, -1, 10 ** 18]))
        if number == 5:
            calls = [label for label, node in enumerate(Nodes(model.tree).tree) if node[0] == "call"]
            return place(pick.choice(calls * 3 + [-1, 0, model.nodes()]))
        if number == 8:
            return run(pick.choice([0, 1, 2, 5, 8, 9, 9, -1, 10, -10 ** 18]))
        if number == 10:
            facts = facts_of(model.tree, model.k)
            return handed(*self.graph(arrows_of(model.tree, facts or set()), model.nodes(), pick))
        return [number]

    def test_spoiled_texts(self):
        maker = Maker(21)
        pick = random.Random(22)
        taken = 0
        for turn in range(3000):
            text = written(maker.program())
            for change in range(pick.randrange(1, 3)):
                at = pick.randrange(len(text) + 1)
                text = text[:at] + pick.choice(["", "(", ")", " ", "0", "7", "in", "x", "fun"]) + text[at + pick.randrange(2):]
            tree = read(text)
            told = ask(program(text), SHOW)
            if tree is None:
                self.assertEqual(told, [[-1], [1, 48]], text)
            else:
                taken += 1
                self.assertEqual((told[0], shown(told[1])), ([len(Nodes(tree).tree)], text))
        self.assertGreater(taken, 100)


if __name__ == "__main__":
    unittest.main()
