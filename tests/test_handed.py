"""Promise 11: handed."""

import unittest

from tests.helper import PLACEALL, PRUNE, SHOW, ask, ask_of, handed, place, program, shown, strings
from tests.test_table import JUST_NOT, TOO_LARGE, TOO_LARGE_2

HUGE = 10 ** 18
EXAMPLE = "(let id (fun x x) (add (id in) (id 3)))"


class Graphs(unittest.TestCase):
    def hold(self, text, graph, answer, ks=(0, 1, 2)):
        for k in ks:
            with self.subTest(text=text, graph=graph, k=k):
                self.assertEqual(ask_of(text, k, handed(*graph)), [answer])

    def hold_arrows(self, text, arrows, ks=(0, 1, 2)):
        """Just these arrows, in this order: each is told when those ahead of it are there."""
        graph = []
        for arrow in arrows:
            self.hold(text, graph, [0, *arrow], ks)
            graph += arrow
        self.hold(text, graph, [1, 0], ks)


class Refused(Graphs):
    def test_an_odd_number_of_them(self):
        for graph in ([4], [0], [4, 1, 7], [4, 1, 7, 1, 4], [0] * 99, [HUGE]):
            self.hold(EXAMPLE, graph, [-4])

    def test_one_below_0(self):
        for below in (-1, -2, -HUGE):
            for at in range(6):
                graph = [4, 1, 7, 1, 4, 9]
                graph[at] = below
                self.hold(EXAMPLE, graph, [-4])
        self.hold(EXAMPLE, [-1, -1], [-4])
        self.hold(EXAMPLE, [0] * 99 + [-1], [-4])

    def test_both(self):
        self.hold(EXAMPLE, [-1], [-4])
        self.hold(EXAMPLE, [4, 1, -1], [-4])

    def test_the_table(self):
        for text, k in ((TOO_LARGE, 1), (TOO_LARGE_2, 2)):
            for graph in ([], [0, 1], [HUGE, HUGE]):
                self.hold(text, graph, [-7], ks=(k,))
                self.assertNotIn(ask_of(text, 0, handed(*graph))[0], ([-7], [-4]))
        self.assertNotEqual(ask_of(JUST_NOT, 1, handed()), [[-7]])

    def test_ahead_of_the_table(self):
        for graph in ([0], [-1, 0], [0, -1], [0, 1, 2]):
            self.hold(TOO_LARGE, graph, [-4], ks=(1,))

    def test_all_stays(self):
        for text, graph in ((EXAMPLE, [4]), (EXAMPLE, [4, -1]), (TOO_LARGE, [4, 1]), (EXAMPLE, [4, 1])):
            told = ask(program(text), handed(*graph), SHOW, strings(0))
            self.assertEqual((shown(told[2]), told[3]), (text, [1]))


class Lacking(Graphs):
    def test_nothing_handed(self):
        self.assertEqual(ask(handed()), [[1, 0]])
        self.hold(EXAMPLE, [], [0, 4, 1])
        self.hold("(fun x x)", [], [1, 0])
        self.hold("(1 2)", [], [1, 0])

    def test_the_first_one(self):
        self.hold(EXAMPLE, [4, 1], [0, 7, 1])
        self.hold(EXAMPLE, [7, 1], [0, 4, 1])
        self.hold(EXAMPLE, [4, 1, 7, 1], [1, 0])
        self.hold(EXAMPLE, [7, 1, 4, 1], [1, 0])

    def test_two_functions(self):
        text = "(let f (if in (fun a a) (fun b b)) (f 1))"
        self.hold(text, [], [0, 7, 3])
        self.hold(text, [7, 3], [0, 7, 5])
        self.hold(text, [7, 5], [0, 7, 3])
        self.hold(text, [7, 3, 7, 5], [1, 0])
        self.hold(text, [7, 5, 7, 3], [1, 0])

    def test_by_calls_then_by_functions(self):
        text = "(let h (fun f (f 1)) (pair (h (fun a a)) (h (fun b b))))"
        self.hold_arrows(text, [(2, 8), (2, 12), (6, 1), (10, 1)])
        self.hold(text, [10, 1, 2, 12, 6, 1], [0, 2, 8])
        self.hold(text, [2, 8, 10, 1], [0, 2, 12])
        self.hold(text, [2, 12, 2, 8], [0, 6, 1])

    def test_a_function_that_comes_late_stands_first(self):
        text = "(let f (fun z (fun c c)) (let x (if in (f 0) (fun a a)) (x 1)))"
        self.hold_arrows(text, [(7, 1), (12, 2), (12, 10)])

    def test_by_numbers_not_by_digits(self):
        self.hold_arrows("(let f (if in (fun a a) (pair (fun b b) (fun c c))) ((if in f (fst f)) 1))", [(10, 3), (10, 6)])
        self.hold_arrows("(let f (if (add 1 (add 2 in)) (fun a a) (fun b b)) (f 1))", [(11, 7), (11, 9)])

    def test_other_sorts_make_no_arrows(self):
        text = "(let f (if in (fun a a) (if in 3 (if in (pair 1 2) (new 4)))) (f 1))"
        self.hold_arrows(text, [(15, 3)])
        self.hold("((pair 1 2) 3)", [], [1, 0])
        self.hold("((new 2) 3)", [], [1, 0])

    def test_a_call_that_gives_a_function(self):
        self.hold_arrows("(((fun x (fun y y)) 1) 2)", [(0, 3), (1, 2)])

    def test_a_call_that_is_never_made_in_a_run(self):
        self.hold_arrows("(if 0 1 ((fun a a) 2))", [(3, 4)])
        self.hold_arrows("(pair (fst 0) ((fun a a) 2))", [(3, 4)])


class Needless(Graphs):
    def test_the_documents_example(self):
        self.hold(EXAMPLE, [4, 1, 7, 1, 4, 9], [1, 1, 4, 9])

    def test_the_first_as_they_are_handed(self):
        self.hold(EXAMPLE, [9, 9, 4, 1, 4, 9, 7, 1], [1, 1, 9, 9])
        self.hold(EXAMPLE, [4, 9, 4, 1, 9, 9, 7, 1], [1, 1, 4, 9])
        self.hold(EXAMPLE, [4, 1, 7, 1, 9, 9, 0, 0], [1, 1, 9, 9])
        self.hold(EXAMPLE, [4, 1, 7, 1, 0, 0, 9, 9], [1, 1, 0, 0])

    def test_labels_that_are_no_calls_or_no_functions(self):
        for arrow in ([4, 0], [4, 4], [4, 2], [0, 1], [1, 1], [1, 4], [7, 7], [4, 10], [10, 1], [10, 10], [30, 1]):
            self.hold(EXAMPLE, [4, 1, 7, 1] + arrow, [1, 1] + arrow)
        for arrow in ([4, HUGE], [HUGE, 1], [HUGE, HUGE]):
            self.hold(EXAMPLE, arrow + [4, 1, 7, 1], [1, 1] + arrow)

    def test_labels_of_other_sorts(self):
        text = "(let f (if in (fun a a) (if in 3 (if in (pair 1 2) (new 4)))) (f 1))"
        for label in (0, 7, 10, 13):
            self.hold(text, [15, 3, 15, label], [1, 1, 15, label])

    def test_without_any_arrow_in_the_table(self):
        self.hold("0", [0, 0], [1, 1, 0, 0])
        self.hold("(0 1)", [0, 1], [1, 1, 0, 1])

    def test_twice(self):
        self.hold(EXAMPLE, [4, 1, 4, 1, 7, 1, 7, 1], [1, 0])
        self.hold(EXAMPLE, [4, 1, 4, 1], [0, 7, 1])
        self.hold(EXAMPLE, [4, 9, 7, 1, 4, 9, 4, 1], [1, 1, 4, 9])

    def test_lacking_and_needless_at_once(self):
        self.hold(EXAMPLE, [4, 1, 9, 9], [0, 7, 1])
        self.hold(EXAMPLE, [9, 9, 7, 1], [0, 4, 1])
        self.hold(EXAMPLE, [1, 4, 1, 7], [0, 4, 1])

    def test_numbers_by_turns(self):
        self.hold(EXAMPLE, [9, 4, 1, 7, 1, 9], [0, 4, 1])
        self.hold(EXAMPLE, [4, 7, 1, 1], [0, 4, 1])

    def test_a_hundred_numbers(self):
        self.hold(EXAMPLE, [4, 1, 7, 1] * 25, [1, 0])
        self.hold(EXAMPLE, [4, 1] * 50, [0, 7, 1])
        self.hold(EXAMPLE, [4, 1] * 49 + [7, 1], [1, 0])
        self.hold(EXAMPLE, [7, 1] + [4, 1] * 48 + [HUGE, 0], [1, 1, HUGE, 0])


class Tables(Graphs):
    def test_never_come_to(self):
        self.hold("(fun x ((fun a a) 1))", [], [1, 0])
        self.hold("(fun x ((fun a a) 1))", [1, 2], [1, 1, 1, 2])
        self.hold_arrows("(let f (fun x x) (pair (f 1) (fun y (f y))))", [(4, 1)])

    def test_none_or_one(self):
        text = "(let id (fun x x) (let f (id (fun a a)) (let g (id (fun b b)) (f 1))))"
        self.hold_arrows(text, [(4, 1), (9, 1), (13, 6), (13, 11)], ks=(0,))
        self.hold_arrows(text, [(4, 1), (9, 1), (13, 6)], ks=(1, 2))
        self.hold(text, [4, 1, 9, 1, 13, 6, 13, 11], [1, 1, 13, 11], ks=(1, 2))

    def test_one_or_two(self):
        text = "(let id (fun x x) (let w (fun y (id y)) (let f (w (fun a a)) (let g (w (fun b b)) (f 1)))))"
        self.hold_arrows(text, [(5, 1), (9, 4), (14, 4), (18, 11), (18, 16)], ks=(0, 1))
        self.hold_arrows(text, [(5, 1), (9, 4), (14, 4), (18, 11)], ks=(2,))

    def test_one_function_made_in_two_strings_is_one_arrow(self):
        self.hold_arrows("(let mk (fun x (fun y y)) (let f (if in (mk 1) (mk 2)) (f 3)))", [(7, 1), (10, 1), (13, 2)])

    def test_strings_of_at_most_1_on_a_new_object(self):
        text = "(let id (fun x x) (let f (id (fun a a)) (let g (id (fun b b)) (f 1))))"
        self.assertEqual(ask(program(text), handed(4, 1, 9, 1, 13, 6))[1], [1, 0])

    def test_by_the_program_then(self):
        told = ask(program(EXAMPLE), handed(4, 1, 7, 1), place(4), handed(4, 1, 7, 1), handed(7, 1), PLACEALL, handed(7, 1),
                   PRUNE, handed())
        self.assertEqual(told[1::2], [[1, 0], [1, 1, 4, 1], [1, 10], [1, 10]])
        self.assertEqual(told[4::2], [[1, 0], [1, 1, 7, 1], [1, 0]])

    def test_labels_are_told_anew(self):
        text = "(let d (fun x (new (new x))) (let f (fun y y) (f 1)))"
        self.assertEqual(ask(program(text), handed(8, 6), PRUNE, handed(8, 6), handed(6, 4))[1:],
                         [[1, 0], [1, 9], [0, 6, 4], [1, 0]])


if __name__ == "__main__":
    unittest.main()
