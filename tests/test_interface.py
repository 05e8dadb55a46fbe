"""toldgraph.desk.answers: how calls are handed in and answers given back."""

import unittest

from tests.helper import DEAD, DIRECT, PLACEALL, SHOW, SIZE, ask, place, program, shown, strings
from tests.test_table import TOO_LARGE
from toldgraph.desk import answers

EXAMPLE = "(let id (fun x x) (add (id in) (id 3)))"
PLACED = "(let id (fun x x) (add (let x in x) (id 3)))"


class Example(unittest.TestCase):
    def test_the_documents_example(self):
        told = ask(program(EXAMPLE), DIRECT, DEAD, place(4), SHOW, PLACEALL, SIZE)
        self.assertEqual(told[:4], [[10], [2, 4, 1, 7, 1], [0], [10]])
        self.assertEqual(told[4], [len(PLACED)] + [ord(sign) for sign in PLACED])
        self.assertEqual(told[5:], [[1, 10], [10, 10, 1, 0]])

    def test_the_list_as_it_is_given_back(self):
        self.assertEqual(answers(program(EXAMPLE) + DIRECT + DEAD), [1, 10, 5, 2, 4, 1, 7, 1, 1, 0])

    def test_a_refusal_is_its_number_alone(self):
        self.assertEqual(answers([5, 9, 1, 7, 2]), [1, -3, 1, -2, 2, 1, 48])


class Lists(unittest.TestCase):
    CALLS = program(EXAMPLE) + strings(2) + place(4) + SHOW + PLACEALL + SIZE + program("?") + DIRECT

    def test_the_list_handed_in_is_as_it_was(self):
        calls = list(self.CALLS)
        answers(calls)
        self.assertEqual(calls, self.CALLS)

    def test_the_same_list_twice(self):
        self.assertEqual(answers(self.CALLS), answers(self.CALLS))

    def test_answers_given_back_are_nobodys(self):
        first = answers(self.CALLS)
        kept = list(first)
        first.clear()
        self.assertEqual(answers(self.CALLS), kept)

    def test_a_new_list_begins_with_a_new_object(self):
        answers(self.CALLS)
        self.assertEqual(ask(SHOW, SIZE, strings(0)), [[1, 48], [1, 1, 1, 0], [1]])

    def test_whole_numbers_and_a_list(self):
        told = answers(self.CALLS)
        self.assertIs(type(told), list)
        self.assertEqual({type(number) for number in told}, {int})

    def test_twenty_calls(self):
        self.assertEqual(ask(*[SHOW] * 20), [[1, 48]] * 20)


class Refused(unittest.TestCase):
    """A refused call leaves everything as it was."""

    def hold(self, text, k, call, refusal):
        behind = [SHOW, SIZE, strings(1)]
        plain = ask(program(text), strings(k), place(self.ahead), *behind)
        told = ask(program(text), strings(k), place(self.ahead), call, *behind)
        self.assertEqual(told[3], [refusal])
        self.assertEqual(told[:3] + told[4:], plain)
        self.assertEqual(told[-1], [k])

    ahead = 4

    def test_not_a_program(self):
        self.hold(EXAMPLE, 2, program("(add 1 2"), -1)
        self.hold(EXAMPLE, 2, program("(add 1 x)"), -1)
        self.hold(EXAMPLE, 0, program(""), -1)

    def test_strings(self):
        self.hold(EXAMPLE, 2, strings(3), -2)
        self.hold(EXAMPLE, 0, strings(-1), -2)

    def test_no_node(self):
        self.hold(EXAMPLE, 2, place(10), -3)

    def test_no_call(self):
        self.hold(EXAMPLE, 0, place(0), -5)

    def test_cannot_be_placed(self):
        self.hold("(let id (fun x x) (add (id in) (3 3)))", 2, place(7), -6)

    def test_no_program_comes(self):
        deep = "(let f (fun x (new (new (new 0)))) (pair (f 1) (new (new (new (f 2))))))"
        self.ahead = 7
        self.assertEqual(ask(program(deep), place(7))[1], [19])
        self.hold(deep, 2, place(16), -8)

    def test_table_too_large(self):
        for call in (DIRECT, DEAD, PLACEALL, place(0)):
            told = ask(program(TOO_LARGE), call, SHOW, SIZE, strings(2))
            self.assertEqual(told[1], [-7])
            self.assertEqual(shown(told[2]), TOO_LARGE)
            self.assertEqual(told[3:], [[told[0][0], told[0][0], 1, 8], [1]])


if __name__ == "__main__":
    unittest.main()
