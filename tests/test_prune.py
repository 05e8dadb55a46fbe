"""Promise 8: prune."""

import unittest

from tests.helper import AGAIN, DEAD, DIRECT, PLACEALL, PRUNE, SAME, SHOW, SIZE, ask, ask_of, place, shown, strings
from tests.test_table import TOO_LARGE, TOO_LARGE_2


class Pruned(unittest.TestCase):
    def hold(self, text, dead, nodes, then, ks=(0, 1, 2)):
        for k in ks:
            with self.subTest(text=text, k=k):
                told = ask_of(text, k, SIZE, PRUNE, SHOW, SIZE, SAME)
                self.assertEqual(told[1], [dead, nodes])
                self.assertEqual(shown(told[2]), then)
                self.assertEqual(told[3][:3], [told[0][0], nodes, k])
                self.assertEqual(told[4], [1])

    def hold_none(self, text, nodes, ks=(0, 1, 2)):
        self.hold(text, 0, nodes, text, ks)


class Dead(Pruned):
    def test_a_new_object(self):
        self.assertEqual(ask(PRUNE, SHOW), [[0, 1], [1, 48]])

    def test_none(self):
        self.hold_none("(add 1 2)", 3)
        self.hold_none("((fun x (new x)) 1)", 5)
        self.hold_none("(let f (fun x (add x 1)) (add (f 2) (f 3)))", 12)
        self.hold_none("(if 0 1 ((fun a (new a)) 2))", 8)

    def test_one(self):
        self.hold("(fun x (add x 1))", 1, 2, "(fun x 0)")
        self.hold("(let f (fun x (if x (add x 1) in)) 3)", 1, 4, "(let f (fun x 0) 3)")

    def test_one_of_two(self):
        self.hold("(let f (fun x (new x)) (let g (fun y (new y)) (g 1)))", 1, 10,
                  "(let f (fun x 0) (let g (fun y (new y)) (g 1)))")
        self.hold("(let f (fun x (new x)) (let g (fun y (new y)) (f 1)))", 1, 10,
                  "(let f (fun x (new x)) (let g (fun y 0) (f 1)))")

    def test_several(self):
        self.hold("(pair (fun a (new a)) (fun b (fst b)))", 2, 5, "(pair (fun a 0) (fun b 0))")
        self.hold("(if (fun a (a a)) (fun b (new b)) (fun c in))", 3, 7, "(if (fun a 0) (fun b 0) (fun c 0))")

    def test_a_body_that_is_0_already(self):
        self.hold("(fun x 0)", 1, 2, "(fun x 0)")
        self.hold("(pair (fun x 0) (fun y 1))", 2, 5, "(pair (fun x 0) (fun y 0))")

    def test_a_leaf_for_a_body(self):
        self.hold("(fun x x)", 1, 2, "(fun x 0)")
        self.hold("(fun x in)", 1, 2, "(fun x 0)")
        self.hold("(fun x 10)", 1, 2, "(fun x 0)")

    def test_in_a_dead_ones_body(self):
        self.hold("(fun x (add 1 (fst (fun y y))))", 2, 2, "(fun x 0)")
        self.hold("(pair (fun x (pair (fun y y) (fun z z))) (fun w (fun v 1)))", 5, 5, "(pair (fun x 0) (fun w 0))")

    def test_a_dead_ones_body_is_a_fun(self):
        self.hold("(fun x (fun y y))", 2, 2, "(fun x 0)")
        self.hold("(let f (fun x (fun y (fun z z))) (pair f 3))", 3, 6, "(let f (fun x 0) (pair f 3))")

    def test_called_in_a_dead_ones_body_alone(self):
        self.hold("(fun x (fun y (fun z ((fun w w) 1))))", 4, 2, "(fun x 0)")
        self.hold("(let f (fun x (new x)) (fun y (f y)))", 2, 5, "(let f (fun x 0) (fun y 0))")

    def test_in_the_body_of_one_that_is_not_dead(self):
        self.hold("((fun x (fun y (new x))) 1)", 1, 5, "((fun x (fun y 0)) 1)")
        self.hold("((fun x (pair (fun y (new x)) x)) (fun z (z z)))", 2, 8, "((fun x (pair (fun y 0) x)) (fun z 0))")

    def test_what_a_pair_or_a_reference_holds(self):
        self.hold("(let p (pair (fun a (new a)) (fun b (new b))) ((fst p) 1))", 1, 11,
                  "(let p (pair (fun a (new a)) (fun b 0)) ((fst p) 1))")
        self.hold("(let p (pair (fun a (new a)) (fun b (new b))) ((snd p) 1))", 1, 11,
                  "(let p (pair (fun a 0) (fun b (new b))) ((snd p) 1))")
        self.hold("(get (new (fun a (add a in))))", 1, 4, "(get (new (fun a 0)))")
        self.hold("(set (new 0) (fun a (add a in)))", 1, 5, "(set (new 0) (fun a 0))")

    def test_a_name_bound_outside(self):
        self.hold("(let y 1 (fun x (add x y)))", 1, 4, "(let y 1 (fun x 0))")

    def test_by_strings_of_at_most_what_is_told(self):
        ahead = "(let i (fun x x) (let f (i (fun a a)) (let g (i "
        self.hold_none(ahead + "(fun b (new b))) (f 1))))", 17, ks=(0,))
        self.hold(ahead + "(fun b (new b))) (f 1))))", 1, 16, ahead + "(fun b 0)) (f 1))))", ks=(1, 2))
        ahead = "(let i (fun x x) (let w (fun y (i y)) (let f (w (fun a a)) (let g (w "
        self.hold_none(ahead + "(fun b (new b))) (f 1)))))", 22, ks=(0, 1))
        self.hold(ahead + "(fun b (new b))) (f 1)))))", 1, 21, ahead + "(fun b 0)) (f 1)))))", ks=(2,))


class Behind(unittest.TestCase):
    def test_place(self):
        told = ask_of("(let f (fun x (new x)) (pair (f 1) (f 2)))", 1, place(5), PRUNE, SHOW, place(9), PRUNE, SHOW, SIZE)
        self.assertEqual([told[0], told[1], told[3], told[4]], [[12], [0, 12], [13], [1, 12]])
        self.assertEqual(shown(told[5]), "(let f (fun x 0) (pair (let x 1 (new x)) (let x 2 (new x))))")
        self.assertEqual(told[6], [11, 12, 1, 0])

    def test_placeall(self):
        told = ask_of("(let f (fun x (add x 1)) (add (f 2) (f 3)))", 0, PLACEALL, PRUNE, SHOW, SAME)
        self.assertEqual(told[:2], [[2, 16], [1, 14]])
        self.assertEqual(shown(told[2]), "(let f (fun x 0) (add (let x 2 (add x 1)) (let x 3 (add x 1))))")
        self.assertEqual(told[3], [1])

    def test_prune(self):
        self.assertEqual(ask_of("(fun x (new x))", 2, PRUNE, PRUNE, PRUNE), [[1, 2]] * 3)
        self.assertEqual(ask_of("(fun x (fun y y))", 2, PRUNE, PRUNE), [[2, 2], [1, 2]])

    def test_strings(self):
        text = "(let i (fun x x) (let f (i (fun a a)) (let g (i (fun b (new b))) (f 1))))"
        self.assertEqual(ask_of(text, 0, PRUNE, strings(1), PRUNE), [[0, 17], [0], [1, 16]])

    def test_labels_are_told_anew(self):
        text = "(let d (fun x (new (new x))) (let f (fun y y) (f 1)))"
        told = ask_of(text, 1, DIRECT, DEAD, PRUNE, DIRECT, DEAD, place(8), place(6), SHOW, SIZE)
        self.assertEqual(told[:5], [[1, 8, 6], [1, 1], [1, 9], [1, 6, 4], [1, 1]])
        self.assertEqual(told[5:7], [[-5], [9]])
        self.assertEqual(shown(told[7]), "(let d (fun x 0) (let f (fun y y) (let y 1 y)))")
        self.assertEqual(told[8], [11, 9, 1, 0])

    def test_again(self):
        told = ask_of("(fun x (new x))", 1, PRUNE, AGAIN, SHOW, SIZE)
        self.assertEqual(told[:2] + told[3:], [[1, 2], [3], [3, 3, 1, 0]])
        self.assertEqual(shown(told[2]), "(fun x (new x))")


class TooLarge(unittest.TestCase):
    def test_refused(self):
        for text, k in ((TOO_LARGE, 1), (TOO_LARGE_2, 2)):
            told = ask_of(text, k, PRUNE, SHOW, strings(0), PRUNE)
            self.assertEqual(told[0], [-7])
            self.assertEqual(shown(told[1]), text)
            self.assertEqual(len(told[3]), 2)


if __name__ == "__main__":
    unittest.main()
