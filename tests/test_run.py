"""Promise 9: run."""

import unittest

from tests.helper import PLACEALL, SHOW, ask, ask_of, place, program, run, shown
from tests.test_table import TOO_LARGE

HUGE = 10 ** 18

# Goes on for ever: three steps, and then three more for each call.
OMEGA = "((fun x (x x)) (fun x (x x)))"


def counted(base, turns, again="((get r) (add n 99))"):
    """Counts down: 11 steps, then 8 for each turn (and those that another again has more), then 2 and the base's."""
    return f"(let r (new 0) (let d (set r (fun n (if n {base} {again}))) ((get r) {turns})))"


class Runs(unittest.TestCase):
    def hold(self, text, answer, inputs=range(10)):
        for number in inputs:
            with self.subTest(text=text, number=number):
                self.assertEqual(ask(program(text), run(number))[1], answer)

    def gives(self, text, number, steps, inputs=range(10)):
        self.hold(text, [0, 0, number, steps], inputs)

    def wrong(self, text, steps, inputs=range(10)):
        self.hold(text, [1, 0, 0, steps], inputs)

    def long(self, text, inputs=range(10)):
        self.hold(text, [2, 0, 0, 300], inputs)


class Refused(unittest.TestCase):
    def test_no_input(self):
        for number in (-1, 10, 11, -2, 99, 100, HUGE, -HUGE, HUGE - 1, 2 ** 32, 2 ** 64):
            with self.subTest(number=number):
                told = ask(program("(add in 1)"), run(number), SHOW, run(3))
                self.assertEqual([told[1], told[3]], [[-2], [0, 0, 4, 3]])
                self.assertEqual(shown(told[2]), "(add in 1)")

    def test_the_least_and_the_most(self):
        self.assertEqual(ask(program("in"), run(0), run(9)), [[1], [0, 0, 0, 1], [0, 0, 9, 1]])


class Kinds(Runs):
    def test_a_new_object(self):
        self.assertEqual(ask(run(5)), [[0, 0, 0, 1]])

    def test_numbers(self):
        for number in range(100):
            self.gives(str(number), number, 1, inputs=(3,))

    def test_the_input(self):
        for number in range(10):
            self.gives("in", number, 1, inputs=(number,))
            self.gives("(add in (add in in))", 3 * number, 5, inputs=(number,))

    def test_fun(self):
        self.hold("(fun x (fst 0))", [0, 1, 0, 1])
        self.hold("(let y 7 (fun x y))", [0, 1, 0, 3])

    def test_call(self):
        self.gives("((fun x x) 5)", 5, 4)
        self.gives("((fun x 6) 5)", 6, 4)
        self.gives("(let f (fun x (add x 1)) (f (f 3)))", 5, 13)
        self.hold("((fun x (fun y x)) 5)", [0, 1, 0, 4])
        self.gives("(((fun x (fun y x)) 5) 6)", 5, 7)

    def test_let(self):
        self.gives("(let x 3 x)", 3, 3)
        self.gives("(let x 3 4)", 4, 3)

    def test_if(self):
        self.gives("(if 0 5 6)", 5, 3)
        for number in (1, 2, 10, 99):
            self.gives(f"(if {number} 5 6)", 6, 3)
        self.gives("(if in 5 6)", 5, 3, inputs=(0,))
        self.gives("(if in 5 6)", 6, 3, inputs=range(1, 10))
        self.gives("(if (add 99 1) 5 6)", 5, 5)

    def test_the_part_that_is_not_taken_makes_no_steps(self):
        self.gives("(if 0 5 (fst (add 1 2)))", 5, 3)
        self.gives("(if 1 (fst (add 1 2)) 6)", 6, 3)
        self.gives(f"(if 0 5 {OMEGA})", 5, 3)
        self.gives("(if 1 5 (add 1 2))", 3, 5)

    def test_pair(self):
        self.hold("(pair 1 2)", [0, 2, 0, 3])
        self.gives("(fst (pair 1 2))", 1, 4)
        self.gives("(snd (pair 1 2))", 2, 4)
        self.hold("(fst (pair (pair 1 2) 3))", [0, 2, 0, 6])
        self.hold("(snd (pair 1 (fun x x)))", [0, 1, 0, 4])
        self.gives("(let p (pair (pair 1 2) (pair 3 4)) (fst (snd p)))", 3, 11)

    def test_new_get_set(self):
        self.hold("(new 1)", [0, 3, 0, 2])
        self.gives("(get (new 7))", 7, 3)
        self.gives("(set (new 1) 8)", 8, 4)
        self.hold("(set (new 1) (new 2))", [0, 3, 0, 5])

    def test_add(self):
        for first, second, both in ((1, 2, 3), (0, 0, 0), (99, 1, 0), (99, 99, 98), (50, 49, 99), (50, 50, 0), (1, 99, 0)):
            self.gives(f"(add {first} {second})", both, 3)
        self.gives("(add in 95)", 4, 3, inputs=(9,))
        self.gives("(add (add 99 99) (add 99 99))", 96, 7)

    def test_no_label_is_told(self):
        self.hold("(let x 0 (let y 0 (fun z z)))", [0, 1, 0, 5])
        self.hold("(let x 0 (let y 0 (pair 7 8)))", [0, 2, 0, 7])
        self.hold("(let x 0 (let y 0 (new 9)))", [0, 3, 0, 6])


class Names(Runs):
    def test_the_innermost_binder(self):
        self.gives("(let x 1 (let x 2 x))", 2, 5)
        self.gives("((fun x ((fun x x) 2)) 1)", 2, 7)
        self.gives("(((fun x (fun x x)) 1) 2)", 2, 7)
        self.gives("(let x 1 ((fun x x) 2))", 2, 6)
        self.gives("((fun x (let x 2 x)) 1)", 2, 6)

    def test_only_in_its_body(self):
        self.gives("(let x 5 (let x (add x 1) x))", 6, 7)
        self.gives("(let x 1 (add (let x 2 x) x))", 3, 7)
        self.gives("(let x 1 (add ((fun x x) 2) x))", 3, 8)
        self.gives("(let x 1 ((fun x (add x x)) (add x 1)))", 4, 10)

    def test_what_a_function_keeps(self):
        self.gives("(let x 1 (let f (fun y (add x y)) (let x 50 (f 2))))", 3, 12)
        self.gives("(let x 1 (let f (fun y x) ((fun x (f x)) 50)))", 1, 11)
        self.gives("((fun x ((fun y (add x y)) 2)) 1)", 3, 9)
        self.gives("((((fun x (fun y (fun z (add x z)))) 1) 2) 4)", 5, 12)

    def test_two_functions_of_one_fun(self):
        self.gives("(let f (fun x (fun y (add x y))) (let g (f 1) (let h (f 20) (add (g 0) (h 0)))))", 21, 25)

    def test_a_caller_binds_nothing_for_the_function(self):
        self.gives("(let x 1 (let f (fun y x) (let g (fun x (f 0)) (g 2))))", 1, 13)

    def test_the_input_within_functions(self):
        for number in range(10):
            self.gives("((fun x (add x in)) 3)", 3 + number, 6, inputs=(number,))
            self.gives("(((fun x (fun y in)) 3) 4)", number, 7, inputs=(number,))


class References(Runs):
    def test_a_set_is_seen(self):
        self.gives("(let r (new 1) (let d (set r 5) (get r)))", 5, 9)
        self.gives("(let r (new 1) (let s r (let d (set s 5) (get r))))", 5, 11)
        self.gives("(let r (new 1) (let d ((fun s (set s 5)) r) (get r)))", 5, 12)

    def test_not_by_another_reference(self):
        self.gives("(let r (new 1) (let s (new 1) (let d (set s 5) (get r))))", 1, 12)
        self.gives("(let f (fun x (new x)) (let r (f 1) (let s (f 2) (let d (set s 5) (add (get r) (get s))))))", 6, 23)

    def test_the_latest_set_counts(self):
        self.gives("(let r (new 1) (let d (set r 5) (let e (set r 6) (get r))))", 6, 13)
        self.hold("(let r (new 1) (let d (set r (fun x x)) (get r)))", [0, 1, 0, 9])

    def test_in_a_reference(self):
        self.gives("(let r (new (new 3)) (let d (set (get r) 4) (get (get r))))", 4, 12)

    def test_in_a_pair(self):
        self.gives("(let p (pair (new 3) 0) (let d (set (fst p) 4) (get (fst p))))", 4, 13)
        self.gives("(let r (new 3) (let p (pair r r) (let d (set (fst p) 4) (get (snd p)))))", 4, 15)

    def test_in_a_function(self):
        self.gives("(let r (new 0) (let f (fun x (set r (add (get r) x))) (add (f 2) (f 3))))", 7, 24)

    def test_what_was_taken_out_stays(self):
        self.gives("(let r (new 1) (let x (get r) (let d (set r 5) x)))", 1, 11)

    def test_from_left_to_right(self):
        self.gives("(let r (new 1) (add (set r 5) (get r)))", 10, 9)
        self.gives("(let r (new 1) (add (get r) (set r 5)))", 6, 9)
        self.gives("(let r (new 1) (fst (pair (get r) (set r 5))))", 1, 10)
        self.gives("(let r (new 1) (snd (pair (set r 5) (get r))))", 5, 10)
        self.gives("(let r (new (fun x 1)) ((get r) (set r (fun x 2))))", 1, 10)
        self.hold("(let r (new 1) (let s (new r) (let d (set (get s) (set s (new 9))) (get r))))", [0, 3, 0, 16])

    def test_one_that_holds_itself(self):
        self.hold("(let r (new 0) (let d (set r r) (get (get (get r)))))", [0, 3, 0, 11])
        self.hold("(let r (new 0) (let p (pair r 1) (let d (set r p) (fst (get (fst (get r)))))))", [0, 3, 0, 16])

    def test_one_that_holds_a_function_that_gets_it(self):
        for number in range(10):
            self.gives(counted("7", "in"), 7, 14 + 8 * number, inputs=(number,))
        self.long("(let r (new 0) (let d (set r (fun x ((get r) x))) ((get r) 1)))")

    def test_nothing_is_kept_from_one_run_to_the_next(self):
        text = "(let r (new 0) (set r (add (get r) 1)))"
        self.assertEqual(ask(program(text), run(1), run(1), run(2))[1:], [[0, 0, 1, 9]] * 3)


class Wrong(Runs):
    def test_call(self):
        self.wrong("(1 2)", 3)
        self.wrong("(in 2)", 3)
        self.wrong("((pair 1 2) 3)", 5)
        self.wrong("((new 1) 3)", 4)
        self.wrong("((add 1 2) 3)", 5)

    def test_if(self):
        self.wrong("(if (fun x x) 1 2)", 2)
        self.wrong("(if (pair 0 0) 1 2)", 4)
        self.wrong("(if (new 0) 1 2)", 3)

    def test_fst_and_snd(self):
        for word in ("fst", "snd"):
            self.wrong(f"({word} 1)", 2)
            self.wrong(f"({word} (fun x x))", 2)
            self.wrong(f"({word} (new (pair 1 2)))", 5)

    def test_get(self):
        self.wrong("(get 1)", 2)
        self.wrong("(get (fun x x))", 2)
        self.wrong("(get (pair 1 2))", 4)

    def test_set(self):
        self.wrong("(set 1 2)", 3)
        self.wrong("(set (fun x x) 2)", 3)
        self.wrong("(set (pair 1 2) 3)", 5)

    def test_add(self):
        for part, steps in (("(fun x x)", 3), ("(pair 1 2)", 5), ("(new 1)", 4)):
            self.wrong(f"(add {part} 1)", steps)
            self.wrong(f"(add 1 {part})", steps)

    def test_both_parts_are_run_ahead(self):
        self.wrong("(1 (add 2 3))", 5)
        self.wrong("(add (fun x x) (add 1 2))", 5)
        self.wrong("(set 1 (add 2 3))", 5)
        self.wrong("(add (fun x x) (if in 1 1))", 5)
        for head in ("1", "add (fun x x)", "set 1", "pair 1"):
            self.long(f"({head} {OMEGA})")

    def test_a_part_is_wrong(self):
        self.wrong("(pair (fst 0) (add 1 2))", 3)
        self.wrong("(pair (add 1 2) (fst 0))", 6)
        self.wrong("(add (fst 0) (add 1 2))", 3)
        self.wrong("(set (fst 0) (add 1 2))", 3)
        self.wrong("((fst 0) (add 1 2))", 3)
        self.wrong("((fun x 1) (fst 0))", 4)
        self.wrong("(let x (fst 0) 1)", 3)
        self.wrong("(new (fst 0))", 3)
        self.wrong("(if (fst 0) 1 2)", 3)
        self.wrong("(fst (fst 0))", 3)

    def test_within(self):
        self.wrong("(let x 1 (fst x))", 4)
        self.wrong("((fun x (fst x)) 1)", 5)
        self.wrong("(pair 1 (if 0 (get 5) 2))", 6)

    def test_on_some_inputs(self):
        self.wrong("(if in (fst in) 3)", 4, inputs=(0,))
        self.gives("(if in (fst in) 3)", 3, 3, inputs=range(1, 10))


class Long(Runs):
    # 11 + 8 * 35 + 2 = 293, and the base's.
    def test_just_300_steps(self):
        self.gives(counted("(add (add 1 2) (add 3 4))", 35), 10, 300)
        self.hold(counted("(new (add 1 (add 2 3)))", 35), [0, 3, 0, 299])

    def test_one_more(self):
        self.long(counted("(new (add (add 1 2) (add 3 4)))", 35))
        self.long(counted("(add (add 1 2) (add 3 (add 4 5)))", 35))

    def test_wrong_at_the_300th_step(self):
        self.wrong(counted("(add (add 1 2) (new (fst 0)))", 35), 300)
        self.wrong(counted("(fst (add 1 (add 2 3)))", 35), 299)

    def test_wrong_only_behind_it(self):
        self.long(counted("(fst (add (add 1 2) (add 3 4)))", 35))
        self.long(f"(fst (pair 1 {OMEGA}))")

    def test_for_ever(self):
        self.long(OMEGA)
        self.long(f"(let x {OMEGA} 1)")
        self.long(f"(if {OMEGA} 1 2)")

    def test_on_some_inputs(self):
        self.long(f"(if in {OMEGA} 3)", inputs=(0,))
        self.gives(f"(if in {OMEGA} 3)", 3, 3, inputs=range(1, 10))

    def test_nested_as_deep_as_the_steps_allow(self):
        for body in ("(add 1 (s s))", "(add (s s) 1)", "(pair (s s) 0)", "(fst (s s))", "(new (s s))", "((s s) 0)", "(0 (s s))",
                     "(let x (s s) 0)", "(let x 0 (s s))", "(if (s s) 0 0)", "(if 0 (s s) 0)", "(s s)", "(s (s s))"):
            self.long(f"(let f (fun s {body}) (f f))")

    def test_nested_deep_and_back(self):
        # Each turn has 10 steps here.
        for turns in (1, 9, 28):
            self.gives(counted("0", turns, again="(add 1 ((get r) (add n 99)))"), turns, 14 + 10 * turns)
        self.long(counted("0", 29, again="(add 1 ((get r) (add n 99)))"))
        self.hold(counted("0", 28, again="(pair ((get r) (add n 99)) n)"), [0, 2, 0, 294])


class Which(unittest.TestCase):
    def test_the_program_not_the_first_one(self):
        text = "(let id (fun x x) (add (id in) (id 3)))"
        told = ask(program(text), run(4), place(4), run(4), PLACEALL, run(4))
        self.assertEqual([told[1], told[3], told[5]], [[0, 0, 7, 11], [0, 0, 7, 10], [0, 0, 7, 9]])

    def test_strings_count_for_nothing(self):
        for k in (0, 1, 2):
            self.assertEqual(ask_of("((fun x (add x in)) 3)", k, run(5)), [[0, 0, 8, 6]])

    def test_no_table_is_needed(self):
        self.assertEqual(ask_of(TOO_LARGE, 1, run(5)), [[1, 0, 0, 8]])


if __name__ == "__main__":
    unittest.main()
