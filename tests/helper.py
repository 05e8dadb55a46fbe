"""Calls as lists of numbers, and their answers taken apart again."""

from toldgraph.desk import answers

SHOW = [2]
DIRECT = [3]
DEAD = [4]
PLACEALL = [6]
PRUNE = [7]
SAME = [9]
AGAIN = [11]
SIZE = [12]


def program(text):
    numbers = [ord(sign) for sign in text] if isinstance(text, str) else list(text)
    return [0, len(numbers)] + numbers


def strings(k):
    return [1, k]


def place(label):
    return [5, label]


def run(number):
    return [8, number]


def handed(*numbers):
    return [10, len(numbers)] + list(numbers)


def ask(*calls):
    """The answers of some calls on one new object, a list each."""
    flat = answers([number for call in calls for number in call])
    apart = []
    at = 0
    while at < len(flat):
        apart.append(flat[at + 1:at + 1 + flat[at]])
        at += 1 + flat[at]
    assert at == len(flat) and len(apart) == len(calls)
    return apart


def ask_of(text, k, *calls):
    """The answers of some calls behind program and strings, both taken."""
    told = ask(program(text), strings(k), *calls)
    assert told[0][0] > 0 and told[1] == [1], (text, told[:2])
    return told[2:]


def shown(answer):
    """The text that show answered."""
    assert answer[0] == len(answer) - 1
    return "".join(chr(number) for number in answer[1:])


def text_after(text, k, *calls):
    return shown(ask_of(text, k, *calls, SHOW)[-1])
