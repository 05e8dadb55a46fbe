"""Texts of expressions, and their rows.

A row is (kind, word): one node, its word being a number's digits, a name, what
a fun or a let binds, or nothing. An expression is the list of its nodes' rows,
a node before those in it, from left to right: so a row's index is its label.
"""

from toldgraph.refusals import NotAProgram

INPUT_NAME = "in"

FORMS = ("fun", "let", "if", "pair", "fst", "snd", "new", "get", "set", "add")
BINDERS = ("fun", "let")

# How many expressions stand in a node of each kind.
PARTS = {
    "number": 0,
    "name": 0,
    "call": 2,
    "fun": 1,
    "let": 2,
    "if": 3,
    "pair": 2,
    "fst": 1,
    "snd": 1,
    "new": 1,
    "get": 1,
    "set": 2,
    "add": 2,
}

LETTERS = "abcdefghijklmnopqrstuvwxyz"
DIGITS = "0123456789"
SIGNS = " ()0123456789abcdefghijklmnopqrstuvwxyz"


def signs_of(numbers):
    by_byte = {}
    for sign in SIGNS:
        by_byte[ord(sign)] = sign
    for number in numbers:
        if number not in by_byte:
            raise NotAProgram()
    return "".join([by_byte[number] for number in numbers])


def bytes_of(text):
    return [ord(sign) for sign in text]


def is_name(word):
    if word in FORMS or not 1 <= len(word) <= 4:
        return False
    return all([letter in LETTERS for letter in word])


def is_number(word):
    if not 1 <= len(word) <= 2 or (len(word) == 2 and word[0] == "0"):
        return False
    return all([digit in DIGITS for digit in word])


def leaf_row(word):
    if is_number(word):
        return ("number", word)
    if is_name(word):
        return ("name", word)
    raise NotAProgram()


def binder_row(kind, word):
    if not is_name(word) or word == INPUT_NAME:
        raise NotAProgram()
    return (kind, word)


# Blanks and brackets aren't looked at closely here: who reads a text holds it
# against the text that its rows have, and that tells all such faults at once.
def rows_of(text):
    rows = []
    before = ""
    for word in text.replace("(", " ( ").replace(")", " ) ").split():
        if before == "(" and word in FORMS:
            rows.append((word, ""))
        elif before in BINDERS:
            rows[-1] = binder_row(before, word)
        else:
            if before == "(":
                rows.append(("call", ""))
            if word != "(" and word != ")":
                rows.append(leaf_row(word))
        before = word
    return rows


def heading_of(row):
    if row[0] == "call":
        return []
    if row[0] in BINDERS:
        return [row[0], row[1]]
    return [row[0]]


# From the back, a node's parts are written before it, its first part last.
def text_of(rows):
    written = []
    for row in reversed(rows):
        if PARTS[row[0]] == 0:
            written.append(row[1])
        else:
            words = heading_of(row)
            for turn in range(PARTS[row[0]]):
                words.append(written.pop())
            written.append("(" + " ".join(words) + ")")
    return written.pop()
