"""Promise 7: placeall."""

import unittest

from tests.helper import DIRECT, PLACEALL, SHOW, SIZE, ask, ask_of, shown
from tests.test_program import sum_of
from tests.test_table import TOO_LARGE, TOO_LARGE_2


class Counts(unittest.TestCase):
    def hold(self, text, placed, nodes, then, ks=(0, 1, 2)):
        for k in ks:
            with self.subTest(text=text, k=k):
                told = ask_of(text, k, SIZE, PLACEALL, SHOW, SIZE)
                self.assertEqual(told[1], [placed, nodes])
                self.assertEqual(shown(told[2]), then)
                self.assertEqual(told[3][:3], [told[0][0], nodes, k])


class All(Counts):
    def test_none(self):
        self.assertEqual(ask(PLACEALL, SHOW), [[0, 1], [1, 48]])
        for text, nodes in (("(fun x x)", 2), ("(0 1)", 3), ("((if in (fun a a) 0) 1)", 7), ("(fun x ((fun a a) 1))", 5)):
            self.hold(text, 0, nodes, text)

    def test_the_documents_example(self):
        self.hold("(let id (fun x x) (add (let x in x) (id 3)))", 1, 10,
                  "(let id (fun x x) (add (let x in x) (let x 3 x)))")

    def test_more_than_one(self):
        self.hold("(let f (fun x (add x 1)) (add (f 2) (f 3)))", 2, 16,
                  "(let f (fun x (add x 1)) (add (let x 2 (add x 1)) (let x 3 (add x 1))))")
        self.hold("((fun x ((fun y (pair x 1)) x)) 2)", 1, 8, "(let x 2 ((fun y (pair x 1)) x))")

    def test_six_times_at_most(self):
        text = "(let f (fun x x) (f (f (f (f (f (f (f 0))))))))"
        then = "(let f (fun x x) (let x (let x (let x (let x (let x (let x (f 0) x) x) x) x) x) x))"
        self.hold(text, 6, 18, then)
        for k in (0, 1, 2):
            self.assertEqual(ask_of(text, k, PLACEALL, PLACEALL, PLACEALL), [[6, 18], [1, 18], [0, 18]])

    def test_six_and_none_is_left(self):
        self.hold("(let f (fun x x) (f (f (f (f (f (f 0)))))))", 6, 16,
                  "(let f (fun x x) (let x (let x (let x (let x (let x (let x 0 x) x) x) x) x) x))")

    def test_the_first_one_by_labels(self):
        rest = sum_of(8)
        self.hold(f"(let f (fun x (new (new x))) (pair (f 1) (pair (f 2) {rest})))", 1, 30,
                  f"(let f (fun x (new (new x))) (pair (let x 1 (new (new x))) (pair (f 2) {rest})))")

    def test_passed_over_for_a_later_one(self):
        body = "(new (new (new (new 0))))"
        self.hold(f"(let f (fun x {body}) (pair (new (new (f 1))) (f 2)))", 1, 20,
                  f"(let f (fun x {body}) (pair (new (new (f 1))) (let x 2 {body})))")
        long = sum_of(4)
        rest = sum_of(5)
        self.hold(f"(let f (fun x {long}) (let g (fun y y) (pair (f 1) (pair (g 2) {rest}))))", 1, 29,
                  f"(let f (fun x {long}) (let g (fun y y) (pair (f 1) (pair (let y 2 y) {rest}))))")

    def test_by_the_table_of_the_program_then(self):
        text = "(let id (fun x x) (let f (id (fun a a)) (let g (id (fun b b)) (add (f 1) (g 2)))))"
        then = ("(let id (fun x x) (let f (let x (fun a a) x) (let g (let x (fun b b) x) "
                "(add (let a 1 a) (let b 2 b)))))")
        self.assertEqual(ask_of(text, 0, DIRECT)[0], [2, 4, 1, 9, 1])
        self.hold(text, 4, 20, then)

    def test_calls_that_come_with_a_body(self):
        body = "(let g g (let g g (let g g (g g))))"
        self.hold("((fun f (f f)) (fun g (g g)))", 4, 22, f"(let f (fun g {body}) (let g f {body}))")

    def test_by_strings_of_at_most_what_is_told(self):
        ahead = "(let y 0 (let id (fun x (if y x x)) (let f (id (fun a a)) (let g (id (fun b b)) "
        self.hold(ahead + "(f 1)))))", 0, 21, ahead + "(f 1)))))", ks=(0,))
        self.hold(ahead + "(f 1)))))", 1, 21, ahead + "(let a 1 a)))))", ks=(1, 2))


class TooLarge(Counts):
    def test_at_once(self):
        self.assertEqual(ask_of(TOO_LARGE, 1, PLACEALL), [[-7]])
        self.assertEqual(ask_of(TOO_LARGE_2, 2, PLACEALL), [[-7]])

    def test_after_one(self):
        body = "((z z) (z (fun g z)))"
        self.hold(f"(let y (fun z {body}) (y (y y)))", 1, 22, f"(let y (fun z {body}) (let z (y y) {body}))", ks=(1,))
        self.assertEqual(ask_of(f"(let y (fun z {body}) (y (y y)))", 1, PLACEALL, DIRECT, PLACEALL)[1:], [[-7], [-7]])

    def test_after_three(self):
        text = "(let y (fun x (x (fun f x))) (y (y (y (y (set y y))))))"
        told = ask_of(text, 1, PLACEALL, DIRECT)
        self.assertEqual([told[0][0], told[1]], [3, [-7]])


if __name__ == "__main__":
    unittest.main()
