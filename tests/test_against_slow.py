"""Random programs, held against a second, slower reading of the document.

Nothing of the package but its one function is used here: programs are nested
tuples, a table is one set of facts, and each rule is written down again.
"""

import random
import unittest

from tests.helper import DEAD, DIRECT, PLACEALL, SHOW, SIZE, ask, place, program, shown, strings

FORMS = {"fun": 1, "let": 2, "if": 3, "pair": 2, "fst": 1, "snd": 1, "new": 1, "get": 1, "set": 2, "add": 2}
SMALL = "abcdefghijklmnopqrstuvwxyz"


class Bad(Exception):
    pass


# Trees: ("num", n), ("name", x), ("fun", x, E), ("let", x, E, E), ("call", E, E), (form, E ..)

class Reader:
    def __init__(self, text):
        self.text = text
        self.at = 0
        self.nodes = 0

    def eat(self, piece):
        if not self.text.startswith(piece, self.at):
            raise Bad()
        self.at += len(piece)

    def word(self):
        begin = self.at
        while self.at < len(self.text) and self.text[self.at] not in "() ":
            self.at += 1
        return self.text[begin:self.at]

    def name(self):
        word = self.word()
        if word in FORMS or not 1 <= len(word) <= 4 or any(c not in SMALL for c in word):
            raise Bad()
        return word

    def expression(self, bound, around):
        self.nodes += 1
        if around > 8 or self.nodes > 30:
            raise Bad()
        if not self.text.startswith("(", self.at):
            begin = self.at
            word = self.word()
            if word in [str(n) for n in range(100)]:
                return ("num", int(word))
            self.at = begin
            if self.name() != "in" and word not in bound:
                raise Bad()
            return ("name", word)
        self.eat("(")
        begin = self.at
        form = self.word()
        if form not in FORMS:
            self.at = begin
            function = self.expression(bound, around + 1)
            self.eat(" ")
            tree = ("call", function, self.expression(bound, around + 1))
        elif form in ("fun", "let"):
            self.eat(" ")
            name = self.name()
            if name == "in":
                raise Bad()
            tree = (form, name)
            if form == "let":
                self.eat(" ")
                tree += (self.expression(bound, around + 1),)
            self.eat(" ")
            tree += (self.expression(bound | {name}, around + 1),)
        else:
            tree = (form,)
            for turn in range(FORMS[form]):
                self.eat(" ")
                tree += (self.expression(bound, around + 1),)
        self.eat(")")
        return tree


def read(text):
    reader = Reader(text)
    try:
        tree = reader.expression(frozenset(), 0)
    except Bad:
        return None
    return tree if reader.at == len(text) else None


def kids(tree):
    return [part for part in tree[1:] if isinstance(part, tuple)]


def written(tree):
    if tree[0] in ("num", "name"):
        return str(tree[1])
    words = [] if tree[0] == "call" else [tree[0]]
    words += [part if isinstance(part, str) else written(part) for part in tree[1:]]
    return "(" + " ".join(words) + ")"


class Nodes:
    """What is known of each label: its tree, its parts, its home, what names are bound by."""

    def __init__(self, tree):
        self.tree = []
        self.parts = []
        self.home = []
        self.scope = []
        self.walk(tree, None, {})

    def walk(self, tree, home, scope):
        label = len(self.tree)
        self.tree.append(tree)
        self.parts.append([])
        self.home.append(home)
        self.scope.append(scope)
        for which, kid in enumerate(kids(tree)):
            inner = dict(scope)
            if tree[0] == "fun" or (tree[0] == "let" and which == 1):
                inner[tree[1]] = label
            self.parts[label].append(self.walk(kid, label if tree[0] == "fun" else home, inner))
        return label

    def inside(self, label):
        found = [label]
        for part in self.parts[label]:
            found += self.inside(part)
        return found

    def outer(self, function):
        within = self.inside(function)
        used = {self.scope[n][self.tree[n][1]] for n in within if self.tree[n][0] == "name" and self.tree[n][1] != "in"}
        return used - set(within)


def facts_of(tree, k):
    """The table's facts, or None if they are more than 400."""
    nodes = Nodes(tree)
    facts = set()
    while True:
        more = set()
        for label, home in enumerate(nodes.home):
            comes = [()] if home is None else [fact[2] for fact in facts if fact[0] == "body" and fact[1] == home]
            for string in comes:
                more |= needs(nodes, k, facts, label, string)
        if more <= facts:
            return facts
        facts |= more
        if len(facts) > 400:
            return None


def needs(nodes, k, facts, label, string):
    def at(place, where):
        return [fact[3] for fact in facts if fact[0] == "at" and fact[1] == place and fact[2] == where]

    def gives(place, where, sorts):
        return {("at", place, where, sort) for sort in sorts}

    tree = nodes.tree[label]
    parts = nodes.parts[label]
    here = ("node", label)
    inner = [at(("node", part), string) for part in parts]
    kind = tree[0]
    if kind in ("num", "add") or tree == ("name", "in"):
        return gives(here, string, ["number"])
    if kind == "name":
        return gives(here, string, at(("binder", nodes.scope[label][tree[1]]), string))
    if kind == "fun":
        return gives(here, string, [("fun", label, string)])
    if kind == "let":
        return gives(("binder", label), string, inner[0]) | gives(here, string, inner[1])
    if kind == "if":
        return gives(here, string, inner[1] + inner[2])
    if kind == "pair":
        return (gives(here, string, [("pair", label, string)]) | gives(("fst", label), string, inner[0])
                | gives(("snd", label), string, inner[1]))
    if kind == "new":
        return gives(here, string, [("new", label, string)]) | gives(("get", label), string, inner[0])
    found = set()
    if kind == "set":
        found |= gives(here, string, inner[1])
    for sort in inner[0]:
        if kind in ("fst", "snd") and sort[0] == "pair" or kind == "get" and sort[0] == "new":
            found |= gives(here, string, at((kind, sort[1]), sort[2]))
        if kind == "set" and sort[0] == "new":
            found |= gives(("get", sort[1]), sort[2], inner[1])
        if kind == "call" and sort[0] == "fun":
            then = (((label,) + string) + ())[:k]
            found |= {("body", sort[1], then)} | gives(("binder", sort[1]), then, inner[1])
            for binder in nodes.outer(sort[1]):
                found |= gives(("binder", binder), then, at(("binder", binder), sort[2]))
            found |= gives(here, string, at(("node", nodes.parts[sort[1]][0]), then))
    return found


def direct_of(tree, facts):
    nodes = Nodes(tree)
    found = []
    for label, node in enumerate(nodes.tree):
        if node[0] == "call":
            sorts = {f[3] if f[3] == "number" else f[3][:2] for f in facts
                     if f[0] == "at" and f[1] == ("node", nodes.parts[label][0])}
            if len(sorts) == 1 and list(sorts)[0][0] == "fun":
                found.append((label, list(sorts)[0][1]))
    return found


def dead_of(tree, facts):
    bodies = {fact[1] for fact in facts if fact[0] == "body"}
    return [label for label, node in enumerate(Nodes(tree).tree) if node[0] == "fun" and label not in bodies]


def swapped(tree, label, other):
    """The tree with another one instead of the node with this label."""
    count = [-1]

    def go(node):
        count[0] += 1
        if count[0] == label:
            count[0] += len(Nodes(node).tree) - 1
            return other
        return tuple(go(part) if isinstance(part, tuple) else part for part in node)
    return go(tree)


def placed_of(tree, facts, label):
    """What place comes to: a refusal's number, or the tree then."""
    nodes = Nodes(tree)
    if not 0 <= label < len(nodes.tree):
        return -3
    if nodes.tree[label][0] != "call":
        return -5
    if facts is None:
        return -7
    function = dict(direct_of(tree, facts)).get(label)
    if function is None or nodes.tree[label][1][0] not in ("name", "fun") or nodes.outer(function):
        return -6
    fun = nodes.tree[function]
    then = swapped(tree, label, ("let", fun[1], nodes.tree[label][2], fun[2]))
    return then if read(written(then)) == then else -8


def placeall_of(tree, k):
    count = 0
    while count < 6:
        facts = facts_of(tree, k)
        if facts is None:
            return (count, tree) if count else -7
        comes = [placed_of(tree, facts, label) for label in range(len(Nodes(tree).tree))]
        comes = [then for then in comes if not isinstance(then, int)]
        if not comes:
            break
        tree = comes[0]
        count += 1
    return count, tree


class Maker:
    """Random programs; calls of bound names are frequent, so that tables have something to tell."""

    def __init__(self, seed):
        self.random = random.Random(seed)
        self.left = 0

    def program(self):
        while True:
            self.left = self.random.randrange(5, 31)
            tree = self.expression([], 0)
            if read(written(tree)) == tree:
                return tree

    def expression(self, bound, around):
        self.left -= 1
        pick = self.random
        if around == 8 or self.left <= 0 or pick.random() < 0.04 * around:
            if bound and pick.random() < 0.75:
                return ("name", pick.choice(bound[-3:]))
            return pick.choice([("num", pick.randrange(100)), ("name", "in"), ("fun", "z", ("name", "z"))])
        kind = pick.choice(["call"] * 5 + ["fun"] * 3 + ["let"] * 4 + sorted(FORMS))
        if kind == "fun":
            name = pick.choice("fgxy")
            return ("fun", name, self.expression(bound + [name], around + 1))
        if kind == "let":
            name = pick.choice("fgxy")
            own = self.expression(bound, around + 1)
            return ("let", name, own, self.expression(bound + [name], around + 1))
        if kind == "call" and bound and pick.random() < 0.6:
            self.left -= 1
            return ("call", ("name", pick.choice(bound[-3:])), self.expression(bound, around + 1))
        return (kind,) + tuple(self.expression(bound, around + 1) for turn in range(FORMS.get(kind, 2)))


class Against(unittest.TestCase):
    def hold(self, tree, k):
        text = written(tree)
        facts = facts_of(tree, k)
        many = len(Nodes(tree).tree)
        told = ask(program(text), strings(k), SHOW, DIRECT, DEAD, SIZE)
        calls = sum(node[0] == "call" for node in Nodes(tree).tree)
        self.assertEqual(told[0], [many])
        self.assertEqual(shown(told[2]), text)
        self.assertEqual(told[5], [many, many, k, calls])
        if facts is None:
            self.assertEqual(told[3:5], [[-7], [-7]], text)
        else:
            direct = direct_of(tree, facts)
            dead = dead_of(tree, facts)
            self.assertEqual(told[3], [len(direct)] + [n for pair in direct for n in pair], text)
            self.assertEqual(told[4], [len(dead)] + dead, text)
        for label in range(-1, many + 1):
            self.hold_then(tree, k, place(label), placed_of(tree, facts, label), [])
        then = placeall_of(tree, k)
        if isinstance(then, int):
            self.hold_then(tree, k, PLACEALL, then, [])
        else:
            self.hold_then(tree, k, PLACEALL, then[1], [then[0]])

    def hold_then(self, tree, k, call, then, ahead):
        text = written(tree)
        told = ask(program(text), strings(k), call, SHOW)
        if isinstance(then, int):
            self.assertEqual((told[2], shown(told[3])), ([then], text))
        else:
            self.assertEqual((told[2], shown(told[3])), (ahead + [len(Nodes(then).tree)], written(then)), text)

    def test_random_programs(self):
        maker = Maker(20)
        for turn in range(150):
            tree = maker.program()
            for k in (0, 1, 2):
                with self.subTest(text=written(tree), k=k):
                    self.hold(tree, k)

    def test_spoiled_texts(self):
        maker = Maker(21)
        pick = random.Random(22)
        taken = 0
        for turn in range(3000):
            text = written(maker.program())
            for change in range(pick.randrange(1, 3)):
                at = pick.randrange(len(text) + 1)
                text = text[:at] + pick.choice(["", "(", ")", " ", "0", "7", "in", "x", "fun"]) + text[at + pick.randrange(2):]
            tree = read(text)
            told = ask(program(text), SHOW)
            if tree is None:
                self.assertEqual(told, [[-1], [1, 48]], text)
            else:
                taken += 1
                self.assertEqual((told[0], shown(told[1])), ([len(Nodes(tree).tree)], text))
        self.assertGreater(taken, 100)


if __name__ == "__main__":
    unittest.main()
