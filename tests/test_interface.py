"""toldgraph.desk.answers: how calls are handed in and answers given back."""

import unittest

from tests.helper import (AGAIN, DEAD, DIRECT, PLACEALL, PRUNE, SAME, SHOW, SIZE, ask, handed, place, program, run, shown,
                          strings)
from tests.test_table import TOO_LARGE
from toldgraph.desk import answers

EXAMPLE = "(let id (fun x x) (add (id in) (id 3)))"
PLACED = "(let id (fun x x) (add (let x in x) (id 3)))"


class Example(unittest.TestCase):
    def test_the_documents_example(self):
        told = ask(program(EXAMPLE), DIRECT, DEAD, run(4), place(4), SHOW, SAME, run(4), PLACEALL, PRUNE, handed(),
                   AGAIN, handed(4, 1), handed(4, 1, 7, 1, 4, 9), SIZE)
        self.assertEqual(told[:5], [[10], [2, 4, 1, 7, 1], [0], [0, 0, 7, 11], [10]])
        self.assertEqual(told[5], [len(PLACED)] + [ord(sign) for sign in PLACED])
        self.assertEqual(told[6:11], [[1], [0, 0, 7, 10], [1, 10], [1, 10], [1, 0]])
        self.assertEqual(told[11:], [[10], [0, 7, 1], [1, 1, 4, 9], [10, 10, 1, 2]])

    def test_the_list_as_it_is_given_back(self):
        self.assertEqual(answers(program(EXAMPLE) + DIRECT + DEAD), [1, 10, 5, 2, 4, 1, 7, 1, 1, 0])

    def test_a_refusal_is_its_number_alone(self):
        self.assertEqual(answers([5, 9, 1, 7, 2]), [1, -3, 1, -2, 2, 1, 48])


class Lists(unittest.TestCase):
    CALLS = (program(EXAMPLE) + strings(2) + place(4) + SHOW + run(3) + PLACEALL + SIZE + program("?") + DIRECT + PRUNE
             + SAME + handed(4, 1, 7, 1) + handed(1) + run(10) + SHOW + DEAD + AGAIN + handed(4, 1, 7, 1) + PRUNE)

    def test_the_list_handed_in_is_as_it_was(self):
        calls = list(self.CALLS)
        answers(calls)
        self.assertEqual(calls, self.CALLS)

    def test_the_same_list_twice(self):
        self.assertEqual(answers(self.CALLS), answers(self.CALLS))

    def test_answers_given_back_are_nobodys(self):
        first = answers(self.CALLS)
        kept = list(first)
        first.clear()
        self.assertEqual(answers(self.CALLS), kept)

    def test_a_new_list_begins_with_a_new_object(self):
        answers(self.CALLS)
        self.assertEqual(ask(SHOW, SIZE, strings(0)), [[1, 48], [1, 1, 1, 0], [1]])

    def test_whole_numbers_and_a_list(self):
        told = answers(self.CALLS)
        self.assertIs(type(told), list)
        self.assertEqual({type(number) for number in told}, {int})

    def test_the_list_twice_in_one(self):
        # program tells all anew but how many strings are at most.
        once = answers(self.CALLS)
        self.assertEqual(answers(strings(2) + self.CALLS + self.CALLS)[2 + len(once):][4:], once[4:])

    def test_twenty_calls(self):
        self.assertEqual(ask(*[SHOW] * 20), [[1, 48]] * 20)
        self.assertEqual(ask(*[AGAIN] * 20), [[1]] * 20)
        self.assertEqual(ask(*[run(7)] * 20), [[0, 0, 0, 1]] * 20)

    def test_the_most_numbers(self):
        rows = [program([40] * 2000)] * 8 + [handed(*[9] * 100)] * 9
        told = ask(*rows, SHOW, SAME, SIZE)
        self.assertEqual(told, [[-1]] * 8 + [[1, 1, 9, 9]] * 9 + [[1, 48], [1], [1, 1, 1, 0]])


class Mixed(unittest.TestCase):
    """Lines of 20 calls, all thirteen calls in them."""

    def test_one_of_each_and_more(self):
        text = "(let f (fun x (add x in)) (pair (f 1) (fst (pair (f 2) (fun y (f y))))))"
        told = ask(SIZE, SAME, program(text), DIRECT, run(3), handed(6, 1), place(6), SHOW, strings(0), DEAD, PRUNE, SAME,
                   PLACEALL, PRUNE, SIZE, handed(), run(3), AGAIN, program("(new"), SHOW)
        self.assertEqual(told[:5], [[1, 1, 1, 0], [1], [18], [2, 6, 1, 11, 1], [0, 2, 0, 18]])
        self.assertEqual(told[5:7], [[0, 11, 1], [20]])
        self.assertEqual(shown(told[7]), text.replace("(f 1)", "(let x 1 (add x in))"))
        self.assertEqual(told[8:14], [[1], [1, 16], [1, 18], [1], [1, 20], [2, 18]])
        self.assertEqual(told[14:19], [[18, 18, 0, 0], [1, 0], [0, 2, 0, 16], [18], [-1]])
        self.assertEqual(shown(told[19]), text)

    def test_refusals_in_between(self):
        text = "((fun f (add (f in) (f 1))) (fun a (add a a)))"
        told = ask(run(10), handed(0), place(0), program("((fun f"), strings(7), program(text), SHOW, run(-1), DIRECT, place(30),
                   place(3), SAME, handed(0, 1, -3, 9), PRUNE, DEAD, PLACEALL, SIZE, run(2), AGAIN, strings(2))
        self.assertEqual(told[:6], [[-2], [-4], [-5], [-1], [-2], [13]])
        self.assertEqual(shown(told[6]), text)
        self.assertEqual(told[7:12], [[-2], [3, 0, 1, 3, 9, 6, 9], [-3], [15], [1]])
        self.assertEqual(told[12:16], [[-4], [0, 15], [0], [2, 16]])
        self.assertEqual(told[16:], [[13, 16, 1, 0], [0, 0, 6, 13], [13], [1]])


class Refused(unittest.TestCase):
    """A refused call leaves everything as it was."""

    BEHIND = [SHOW, SIZE, DIRECT, DEAD, run(1), SAME, handed(), AGAIN, SHOW, SIZE, SAME, strings(1)]

    def hold(self, text, k, call, refusal):
        plain = ask(program(text), strings(k), place(self.ahead), *self.BEHIND)
        told = ask(program(text), strings(k), place(self.ahead), call, *self.BEHIND)
        self.assertEqual(told[3], [refusal])
        self.assertEqual(told[:3] + told[4:], plain)
        self.assertEqual(told[-1], [k])
        self.assertEqual(shown(told[-4]), text)

    ahead = 4

    def test_not_a_program(self):
        self.hold(EXAMPLE, 2, program("(add 1 2"), -1)
        self.hold(EXAMPLE, 2, program("(add 1 x)"), -1)
        self.hold(EXAMPLE, 0, program(""), -1)

    def test_strings(self):
        self.hold(EXAMPLE, 2, strings(3), -2)
        self.hold(EXAMPLE, 0, strings(-1), -2)

    def test_no_node(self):
        self.hold(EXAMPLE, 2, place(10), -3)

    def test_no_call(self):
        self.hold(EXAMPLE, 0, place(0), -5)

    def test_cannot_be_placed(self):
        self.hold("(let id (fun x x) (add (id in) (3 3)))", 2, place(7), -6)

    def test_no_program_comes(self):
        deep = "(let f (fun x (new (new (new 0)))) (pair (f 1) (new (new (new (f 2))))))"
        self.ahead = 7
        self.assertEqual(ask(program(deep), place(7))[1], [19])
        self.hold(deep, 2, place(16), -8)

    def test_no_input(self):
        self.hold(EXAMPLE, 2, run(-1), -2)
        self.hold(EXAMPLE, 0, run(10), -2)

    def test_no_graph(self):
        self.hold(EXAMPLE, 2, handed(4), -4)
        self.hold(EXAMPLE, 0, handed(4, -1), -4)

    def test_table_too_large(self):
        for call in (DIRECT, DEAD, PLACEALL, PRUNE, place(0), handed(), handed(0, 1)):
            told = ask(program(TOO_LARGE), call, SHOW, SIZE, SAME, AGAIN, SHOW, strings(2))
            self.assertEqual(told[1], [-7])
            self.assertEqual([shown(told[2]), shown(told[6])], [TOO_LARGE] * 2)
            self.assertEqual(told[3:6] + told[7:], [[told[0][0], told[0][0], 1, 8], [1], told[0], [1]])


if __name__ == "__main__":
    unittest.main()
