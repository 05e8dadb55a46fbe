"""Promise 10: same, and what it is for two programs to be as good."""

import unittest

from tests.helper import AGAIN, PLACEALL, PRUNE, SAME, ask, ask_of, place, program, run, strings
from tests.test_run import OMEGA, counted
from tests.test_table import TOO_LARGE
from toldgraph.desk import Desk, answer_same
from toldgraph.programs import read_program

EXAMPLE = "(let id (fun x x) (add (id in) (id 3)))"


class Asked(unittest.TestCase):
    """Behind calls: no change may be noticed, so that 1 is what can be answered."""

    def test_a_new_object(self):
        self.assertEqual(ask(SAME), [[1]])

    def test_a_new_program(self):
        for text in ("in", "(fst 0)", OMEGA, EXAMPLE, "(fun x x)"):
            self.assertEqual(ask(program("(add in 50)"), program(text), SAME)[2], [1])

    def test_behind_changes(self):
        told = ask_of(EXAMPLE, 1, place(4), SAME, PLACEALL, SAME, PRUNE, SAME, AGAIN, SAME)
        self.assertEqual(told, [[10], [1], [1, 10], [1], [1, 10], [1], [10], [1]])

    def test_behind_changes_of_a_wrong_program(self):
        text = "(let f (fun x (fst x)) (if in (f (pair in 1)) (f in)))"
        told = ask_of(text, 1, run(0), run(1), PLACEALL, SAME, PRUNE, SAME, run(0), run(1))
        self.assertEqual(told[:2], [[0, 0, 0, 11], [1, 0, 0, 9]])
        self.assertEqual([told[3], told[5]], [[1], [1]])
        self.assertEqual(told[6:], [[0, 0, 0, 10], [1, 0, 0, 8]])

    def test_a_refused_program_is_not_compared(self):
        self.assertEqual(ask(program("in"), program("(add in"), SAME)[1:], [[-1], [1]])

    def test_no_table_is_needed(self):
        self.assertEqual(ask_of(TOO_LARGE, 1, SAME), [[1]])

    def test_behind_strings(self):
        self.assertEqual(ask_of(EXAMPLE, 2, place(4), strings(0), SAME)[2], [1])

    def test_only_the_first_one_is_long(self):
        # With its call in place the program has just 300 steps.
        text = counted("((fun x x) (add 1 (add 2 3)))", 35)
        told = ask(program(text), run(0), place(9), run(0), SAME)
        self.assertEqual(told[1:], [[2, 0, 0, 300], [26], [0, 0, 6, 300], [1]])


class AsGood(unittest.TestCase):
    """Two programs that no calls bring together, held against one another."""

    def answer(self, first, other):
        desk = Desk()
        desk.first = read_program([ord(sign) for sign in first])
        desk.program = read_program([ord(sign) for sign in other])
        return answer_same(desk, [])

    def good(self, first, other):
        self.assertEqual(self.answer(first, other), [1], (first, other))

    def unlike(self, first, other, number):
        self.assertEqual(self.answer(first, other), [0, number], (first, other))

    def test_numbers(self):
        self.good("5", "5")
        self.good("(add 2 3)", "5")
        self.good("in", "(let x in x)")
        self.unlike("5", "6", 0)
        self.unlike("0", "99", 0)
        self.unlike("in", "0", 1)

    def test_the_first_input(self):
        for number in range(10):
            self.unlike("in", f"(if (add in {(100 - number) % 100}) 50 in)", number)
        self.unlike("(if in 1 2)", "(if in 1 3)", 1)
        self.unlike("(if in 1 2)", "(if in 3 2)", 0)

    def test_kinds(self):
        kinds = ("0", "(fun x 0)", "(pair 0 0)", "(new 0)")
        for first in kinds:
            for other in kinds:
                if first == other:
                    self.good(first, other)
                else:
                    self.unlike(first, other, 0)

    def test_labels_count_for_nothing(self):
        self.good("(fun x x)", "(let y 0 (fun z 5))")
        self.good("(pair 1 2)", "(let y 0 (pair 3 4))")
        self.good("(new 1)", "(let y 0 (new 2))")

    def test_wrong(self):
        self.good("(fst 0)", "(let x 1 (get 5))")
        self.unlike("(fst 0)", "0", 0)
        self.unlike("0", "(fst 0)", 0)
        self.unlike("(if in 0 1)", "(if in 0 (fst 0))", 1)

    def test_the_first_is_long(self):
        self.good(OMEGA, "0")
        self.good(OMEGA, "(fst 0)")
        self.good(OMEGA, OMEGA)
        self.good(f"(if in {OMEGA} 3)", "3")
        self.unlike(f"(if in {OMEGA} 3)", "(if in 3 4)", 1)

    def test_only_the_other_is_long(self):
        self.unlike("0", OMEGA, 0)
        self.unlike("(fst 0)", OMEGA, 0)
        self.unlike("3", f"(if in 3 {OMEGA})", 1)
        self.unlike("10", counted("(new (add (add 1 2) (add 3 4)))", 35), 0)
        self.good("10", counted("(add (add 1 2) (add 3 4))", 35))


if __name__ == "__main__":
    unittest.main()
