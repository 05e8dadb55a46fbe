"""Promise 6: place."""

import unittest

from tests.helper import DIRECT, SHOW, SIZE, ask, ask_of, place, program, shown
from tests.test_program import sum_of
from tests.test_table import TOO_LARGE, TOO_LARGE_2

HUGE = 10 ** 18


class Refusals(unittest.TestCase):
    def hold(self, text, label, refusal, ks=(0, 1, 2)):
        for k in ks:
            with self.subTest(text=text, label=label, k=k):
                told = ask_of(text, k, place(label), SHOW)
                self.assertEqual(told[0], [refusal])
                self.assertEqual(shown(told[1]), text)


class Refused(Refusals):
    def test_no_such_node(self):
        for label in (-1, -2, 4, 5, 30, HUGE, -HUGE):
            self.hold("((fun x x) 1)", label, -3)
        self.assertEqual(ask(place(1), place(-1), place(0)), [[-3], [-3], [-5]])

    def test_no_call(self):
        text = "(if (add 1 in) (pair (fst 0) (snd 0)) (set (new 1) (get (fun x (let y x y)))))"
        for label in range(17):
            self.hold(text, label, -5)
        self.hold(text, 17, -3)

    def test_not_direct(self):
        self.hold("(0 1)", 0, -6)
        self.hold("(in 1)", 0, -6)
        self.hold("(let f (if in (fun a a) (fun b b)) (f 1))", 7, -6)
        self.hold("(let f (if in (fun a a) 0) (f 1))", 6, -6)
        self.hold("(let f (if in (fun a a) (pair 0 0)) (f 1))", 8, -6)

    def test_never_come_to(self):
        self.hold("(fun x ((fun a a) 1))", 1, -6)
        self.hold("(let f (fun a a) (fun x (f 1)))", 4, -6)

    def test_its_functions_part_is_something_else(self):
        self.hold("(((fun x (fun y y)) 1) 2)", 0, -6)
        self.hold("((if 0 (fun a a) (fst 0)) 1)", 0, -6)
        self.hold("((let x 0 (fun a a)) 1)", 0, -6)
        self.hold("((fst (pair (fun a a) 0)) 1)", 0, -6)
        self.hold("((snd (pair 0 (fun a a))) 1)", 0, -6)
        self.hold("((get (new (fun a a))) 1)", 0, -6)
        self.hold("((set (new 0) (fun a a)) 1)", 0, -6)

    def test_a_name_bound_outside_of_the_function(self):
        self.hold("(let y 1 (let f (fun x (add x y)) (f 2)))", 7, -6)
        self.hold("(let y 1 ((fun x (add x y)) 2))", 2, -6)
        self.hold("(let y 1 ((fun x (fun z y)) 2))", 2, -6)
        self.hold("((fun y ((fun x (let z y z)) 2)) 1)", 2, -6)
        self.hold("(let x 1 ((fun y (let x x y)) 2))", 2, -6)

    def test_a_node_too_deep(self):
        self.hold("(let f (fun x (new (new (new (new 0))))) (new (new (new (f 1)))))", 10, -8)
        self.hold("(pair (let f (fun x (pair 1 (new (new x)))) (new (new (new (f 2))))) 0)", 11, -8)

    def test_a_node_too_many(self):
        self.hold(f"(let f (fun x (new x)) (pair (f 1) (new {sum_of(11)})))", 5, -8)

    def test_the_table(self):
        self.hold(TOO_LARGE, 10, -7, ks=(1,))
        self.hold(TOO_LARGE_2, 0, -7, ks=(2,))


class TwoAtOnce(Refusals):
    def test_no_node_and_the_table(self):
        self.hold(TOO_LARGE, 30, -3, ks=(1,))
        self.hold(TOO_LARGE, -1, -3, ks=(1,))

    def test_no_call_and_the_table(self):
        self.hold(TOO_LARGE, 1, -5, ks=(1,))

    def test_the_table_and_cannot_be_placed(self):
        self.hold(TOO_LARGE, 0, -7, ks=(1,))
        self.hold(TOO_LARGE, 5, -7, ks=(1,))

    def test_the_table_and_no_program(self):
        for text, label, k in ((TOO_LARGE, 11, 1), (TOO_LARGE, 16, 1), (TOO_LARGE_2, 11, 2)):
            self.hold(text, label, -8, ks=(0,))
            self.hold(text, label, -7, ks=(k,))

    def test_cannot_be_placed_and_no_program(self):
        self.hold("(let y 0 (let f (fun x (new (new (new y)))) (new (new (new (f 1))))))", 11, -6)
        self.hold("(let f (fun x (new (new (new (new 0))))) (new (new (new ((if 0 f f) 1)))))", 10, -6)


class Placed(unittest.TestCase):
    def hold(self, text, label, then, nodes, ks=(0, 1, 2)):
        for k in ks:
            with self.subTest(text=text, label=label, k=k):
                told = ask_of(text, k, place(label), SHOW)
                self.assertEqual(shown(told[1]), then)
                self.assertEqual(told[0], [nodes])
                self.assertEqual(ask(program(then))[0], [nodes])

    def test_its_functions_part_a_name(self):
        self.hold("(let id (fun x x) (add (id in) (id 3)))", 4, "(let id (fun x x) (add (let x in x) (id 3)))", 10)
        self.hold("(let id (fun x x) (add (id in) (id 3)))", 7, "(let id (fun x x) (add (id in) (let x 3 x)))", 10)
        self.hold("((fun f (f 1)) (fun a (new a)))", 2, "((fun f (let a 1 (new a))) (fun a (new a)))", 9)

    def test_its_functions_part_a_fun(self):
        self.hold("((fun x (add x 1)) in)", 0, "(let x in (add x 1))", 5)
        self.hold("(new ((fun x (pair x (fun y y))) (fun z 0)))", 1, "(new (let x (fun z 0) (pair x (fun y y))))", 8)

    def test_a_name_bound_within_the_function(self):
        self.hold("((fun x (let y x (fun z (pair x (pair y z))))) 2)", 0, "(let x 2 (let y x (fun z (pair x (pair y z)))))", 10)
        self.hold("(let x 1 ((fun x (let x x x)) x))", 2, "(let x 1 (let x x (let x x x)))", 7)

    def test_the_input_in_the_function(self):
        self.hold("(let f (fun x (add x in)) (f 2))", 5, "(let f (fun x (add x in)) (let x 2 (add x in)))", 10)

    def test_the_argument_may_use_any_name(self):
        self.hold("(let x 1 (let f (fun x (new x)) (f (add x 2))))", 6,
                  "(let x 1 (let f (fun x (new x)) (let x (add x 2) (new x))))", 12)
        self.hold("(let x 1 ((fun y (new y)) x))", 2, "(let x 1 (let y x (new y)))", 6)

    def test_a_call_within_the_functions_body(self):
        text = "((fun f (f f)) (fun g (g g)))"
        self.hold(text, 6, "((fun f (f f)) (fun g (let g g (g g))))", 11)
        self.hold(text, 2, "((fun f (let g f (g g))) (fun g (g g)))", 11)
        self.hold(text, 0, "(let f (fun g (g g)) (f f))", 8)

    def test_a_function_made_in_two_strings(self):
        text = "(let mk (fun x (fun y y)) (let f (if in (mk 1) (mk 2)) (f 3)))"
        self.hold(text, 13, "(let mk (fun x (fun y y)) (let f (if in (mk 1) (mk 2)) (let y 3 y)))", 16)

    def test_the_deepest_that_may_be(self):
        self.hold("(let f (fun x (new (new (new (new 0))))) (new (new (f 1))))", 9,
                  "(let f (fun x (new (new (new (new 0))))) (new (new (let x 1 (new (new (new (new 0))))))))", 16)

    def test_the_most_nodes_that_may_be(self):
        rest = sum_of(11)
        self.hold(f"(let f (fun x (new x)) (pair (f 1) {rest}))", 5, f"(let f (fun x (new x)) (pair (let x 1 (new x)) {rest}))", 30)

    def test_by_strings_of_at_most_what_is_told(self):
        text = "(let id (fun x x) (let f (id (fun a 7)) (let g (id (fun b b)) (f 1))))"
        then = "(let id (fun x x) (let f (id (fun a 7)) (let g (id (fun b b)) (let a 1 7))))"
        self.hold(text, 13, then, 16, ks=(1, 2))
        self.assertEqual(ask_of(text, 0, place(13))[0], [-6])

    def test_labels_are_told_anew(self):
        text = "(let f (fun x (add x 1)) (add (f 2) (f 3)))"
        told = ask_of(text, 1, DIRECT, place(6), DIRECT, SIZE, place(9), place(11), SIZE, SHOW)
        self.assertEqual(told[:4], [[2, 6, 1, 9, 1], [14], [1, 11, 1], [12, 14, 1, 1]])
        self.assertEqual(told[4:7], [[-5], [16], [12, 16, 1, 0]])
        self.assertEqual(shown(told[7]), "(let f (fun x (add x 1)) (add (let x 2 (add x 1)) (let x 3 (add x 1))))")

    def test_by_the_table_of_the_program_then(self):
        text = "(let id (fun x x) (let f (id (fun a 7)) (let g (id (fun b b)) (f 1))))"
        self.assertEqual(ask_of(text, 0, place(13), place(4), place(13)), [[-6], [16], [16]])


if __name__ == "__main__":
    unittest.main()
