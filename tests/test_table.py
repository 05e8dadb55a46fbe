"""Promises 4 and 5, direct and dead, and the table that they go by."""

import unittest

from tests.helper import DEAD, DIRECT, ask, ask_of, program

# Two pairs of programs that differ by one fact: 400 facts, and 401.
JUST_NOT = "((if (get (set (fun z z) in)) (fun x ((x x) in)) (fun x (x (set x x)))) (fun x ((x (x (fun f x))) x)))"
TOO_LARGE = "((if (get (set (fst (66 in)) in)) (fun x ((x x) in)) (fun x (x (set x x)))) (fun x ((x (x (fun f x))) x)))"
JUST_NOT_2 = "((fun f ((((fun z ((z z) f)) (f f)) (fun g f)) ((set f f) f))) (fun f (if in f (fun z (f f)))))"
TOO_LARGE_2 = "((fun f ((((fun z ((z z) f)) (f f)) (fun g f)) ((let g f g) f))) (fun f (if in f (fun z (f f)))))"


class Told(unittest.TestCase):
    def hold(self, text, direct, dead, ks=(0, 1, 2)):
        for k in ks:
            with self.subTest(text=text, k=k):
                told = ask_of(text, k, DIRECT, DEAD)
                self.assertEqual(told[0], [len(direct)] + [number for pair in direct for number in pair])
                self.assertEqual(told[1], [len(dead)] + dead)


class Names(Told):
    def test_the_innermost_binder_counts(self):
        self.hold("(let f (fun a a) (let f (fun b b) (f 1)))", [(6, 4)], [1])
        self.hold("((fun f (let f (fun b b) (f 1))) (fun a a))", [(0, 1), (5, 3)], [8])
        self.hold("(let f (fun a a) ((fun f (f 1)) (fun b b)))", [(3, 4), (5, 8)], [1])

    def test_a_lets_own_part_is_outside(self):
        self.hold("(let f (fun a a) (let f (f 1) f))", [(4, 1)], [])
        self.hold("(let f (fun a a) (let f (f (fun b b)) (f 1)))", [(4, 1), (8, 6)], [])

    def test_bound_outside_of_a_function(self):
        self.hold("(let g (fun a a) (let f (fun x (g x)) (f 3)))", [(5, 1), (8, 4)], [])
        self.hold("(let g (fun a a) (((fun x (fun y (g y))) 1) 2))", [(3, 6), (4, 5), (7, 1)], [])
        self.hold("((fun g (((fun x (fun y (g y))) 1) 2)) (fun a a))", [(0, 1), (2, 5), (3, 4), (6, 11)], [])

    def test_names_within_a_function_within_it(self):
        text = "(let k (fun x (fun y (fun z x))) ((((k (fun a a)) 1) 2) 3))"
        self.hold(text, [(5, 10), (6, 3), (7, 2), (8, 1)], [])

    def test_the_input_is_a_number(self):
        self.hold("(in 1)", [], [])
        self.hold("((fun f (f 1)) in)", [(0, 1)], [])


class Through(Told):
    def test_a_function_on_the_spot(self):
        self.hold("((fun a a) 1)", [(0, 1)], [])

    def test_pairs(self):
        self.hold("(let p (pair (fun a a) (fun b b)) ((fst p) 1))", [(6, 2)], [4])
        self.hold("(let p (pair (fun a a) (fun b b)) ((snd p) 1))", [(6, 4)], [2])

    def test_references(self):
        self.hold("((get (new (fun a a))) 1)", [(0, 3)], [])
        self.hold("(let r (new (fun a a)) (let d (set r (fun b b)) ((get r) 1)))", [], [])
        self.hold("((set (new 0) (fun b b)) 1)", [(0, 4)], [])

    def test_a_set_that_comes_too_late_counts_too(self):
        self.hold("(let r (new (fun a a)) (let d ((get r) 1) (set r (fun b b))))", [], [])

    def test_a_reference_made_elsewhere(self):
        text = "(let r (new (fst 0)) (let d ((fun s (set s (fun b b))) r) ((get r) 1)))"
        self.hold(text, [(5, 6), (12, 9)], [])
        self.hold("(let r (new 0) (let d ((fun s (set s (fun b b))) r) ((get r) 1)))", [(4, 5)], [])
        self.hold("(let r (new 0) (let d ((fun s (set r (fun b b))) 1) ((get r) 1)))", [(4, 5)], [])

    def test_references_of_one_new_in_two_strings(self):
        text = "(let mk (fun x (new x)) (let r (mk (fun a a)) (let s (mk 0) (let d (set s (fun b b)) ((get r) 1)))))"
        self.hold(text, [(5, 1), (10, 1)], [], ks=(0,))
        self.hold(text, [(5, 1), (10, 1), (18, 7)], [16], ks=(1, 2))

    def test_pairs_of_one_pair_in_two_strings(self):
        text = "(let mk (fun x (pair 0 x)) (let p (mk (fun a a)) (let q (mk (fun b b)) ((snd p) 1))))"
        self.hold(text, [(6, 1), (11, 1)], [], ks=(0,))
        self.hold(text, [(6, 1), (11, 1), (15, 8)], [13], ks=(1, 2))

    def test_if(self):
        self.hold("((if in (fun a a) (fun b b)) 1)", [], [])
        self.hold("((if (fun c c) (fun a a) (fst 0)) 1)", [(0, 4)], [2])
        self.hold("((if 0 (fst 0) (fun b b)) 1)", [(0, 5)], [])

    def test_let(self):
        self.hold("((let x 0 (fun a a)) 1)", [(0, 3)], [])
        self.hold("(let f (fun a a) (let g f (g 1)))", [(5, 1)], [])

    def test_arguments(self):
        self.hold("((fun f (f 1)) (fun a a))", [(0, 1), (2, 5)], [])

    def test_what_a_call_gives(self):
        self.hold("(((fun x (fun y y)) 1) 2)", [(0, 3), (1, 2)], [])
        self.hold("(((fun x x) (fun y y)) 2)", [(0, 4), (1, 2)], [])

    def test_an_add_gives_a_number_alone(self):
        self.hold("((add (fun a a) 1) 2)", [], [2])
        self.hold("((fst (add (fun a a) 1)) 2)", [], [3])
        self.hold("((if in (fun a a) (add 1 2)) 1)", [], [])


class NotDirect(Told):
    def test_something_else_too(self):
        self.hold("((if in (fun a a) 0) 1)", [], [])
        self.hold("((if in (fun a a) in) 1)", [], [])
        self.hold("((if in (fun a a) (pair 0 0)) 1)", [], [])
        self.hold("((if in (fun a a) (new 0)) 1)", [], [])

    def test_in_all_strings_together(self):
        self.hold("(let h (fun f (f 1)) (pair (h (fun a a)) (h (fun b b))))", [(6, 1), (10, 1)], [])
        self.hold("(let h (fun f (f 1)) (pair (h (fun a a)) (h 0)))", [(6, 1), (10, 1)], [])

    def test_one_function_made_in_two_strings_is_one(self):
        text = "(let mk (fun x (fun y y)) (let f (if in (mk 1) (mk 2)) (f 3)))"
        self.hold(text, [(7, 1), (10, 1), (13, 2)], [])

    def test_no_function_at_all(self):
        self.hold("0", [], [])
        self.hold("(0 1)", [], [])
        self.hold("((pair 0 0) 1)", [], [])
        self.hold("((new 0) 1)", [], [])
        self.hold("((fst 0) 1)", [], [])

    def test_never_come_to(self):
        self.hold("(fun x ((fun a a) 1))", [], [0, 2])
        self.hold("(let f (fun x (x 1)) 0)", [], [1])


class Dead(Told):
    def test_never_called(self):
        self.hold("(fun x x)", [], [0])
        self.hold("(pair (fun a a) (fun b b))", [], [1, 3])
        self.hold("((fun x 0) (fun a a))", [(0, 1)], [3])

    def test_in_a_dead_ones_body(self):
        self.hold("(fun x (fun y (fun z ((fun w w) 1))))", [], [0, 1, 2, 4])

    def test_not_dead_though_no_run_comes_there(self):
        self.hold("(if 0 1 ((fun a a) 2))", [(3, 4)], [])
        self.hold("(add (fst 0) ((fun a a) 1))", [(3, 4)], [])
        self.hold("((fun a ((fun b b) 1)) (fst 0))", [(0, 1), (2, 3)], [])
        self.hold("((fun f (f f)) (fun g (g g)))", [(0, 1), (2, 5), (6, 5)], [])


class Strings(Told):
    def test_none_or_one(self):
        text = "(let id (fun x x) (let f (id (fun a a)) (let g (id (fun b b)) (f 1))))"
        self.hold(text, [(4, 1), (9, 1)], [], ks=(0,))
        self.hold(text, [(4, 1), (9, 1), (13, 6)], [11], ks=(1, 2))

    def test_one_or_two(self):
        text = "(let id (fun x x) (let w (fun y (id y)) (let f (w (fun a a)) (let g (w (fun b b)) (f 1)))))"
        self.hold(text, [(5, 1), (9, 4), (14, 4)], [], ks=(0, 1))
        self.hold(text, [(5, 1), (9, 4), (14, 4), (18, 11)], [16], ks=(2,))

    def test_no_more_than_two(self):
        text = ("(let i (fun x x) (let w (fun y (i y)) (let v (fun z (w z)) "
                "(let f (v (fun a a)) (let g (v (fun b b)) (f 1))))))")
        self.hold(text, [(5, 1), (10, 4), (14, 9), (19, 9)], [])

    def test_what_a_function_keeps_is_by_where_it_was_made(self):
        text = "(let k (fun x (fun y x)) (let f (k (fun a a)) (let g (k (fun b b)) ((f 0) 1))))"
        self.hold(text, [(5, 1), (10, 1), (15, 2)], [], ks=(0,))
        self.hold(text, [(5, 1), (10, 1), (14, 7), (15, 2)], [12], ks=(1, 2))

    def test_strings_of_at_most_1_on_a_new_object(self):
        text = "(let id (fun x x) (let f (id (fun a a)) (let g (id (fun b b)) (f 1))))"
        self.assertEqual(ask(program(text), DEAD)[1], [1, 11])


class TooLarge(unittest.TestCase):
    def test_400_facts(self):
        self.assertEqual(ask_of(JUST_NOT, 1, DIRECT, DEAD), [[2, 9, 19, 14, 19], [1, 4]])
        self.assertEqual(ask_of(JUST_NOT_2, 2, DIRECT, DEAD), [[4, 0, 1, 4, 5, 11, 21, 16, 21], [0]])

    def test_401_facts(self):
        self.assertEqual(ask_of(TOO_LARGE, 1, DIRECT, DEAD), [[-7], [-7]])
        self.assertEqual(ask_of(TOO_LARGE_2, 2, DIRECT, DEAD), [[-7], [-7]])

    def test_by_strings_of_at_most_what_is_told(self):
        self.assertNotIn([-7], ask_of(TOO_LARGE, 0, DIRECT, DEAD))
        self.assertNotIn([-7], ask_of(TOO_LARGE_2, 0, DIRECT, DEAD))


if __name__ == "__main__":
    unittest.main()
