"""Promises 1, 2, 3 and 13: program, strings, show, size."""

import unittest

from tests.helper import AGAIN, PLACEALL, PRUNE, SAME, SHOW, SIZE, ask, handed, place, program, run, shown, strings

WORDS = ["fun", "let", "if", "pair", "fst", "snd", "new", "get", "set", "add"]
HUGE = 10 ** 18


def sum_of(leaves):
    """An add of so many numbers, none deep: it has 2 * leaves - 1 nodes."""
    if leaves == 1:
        return "1"
    half = leaves // 2
    return f"(add {sum_of(half)} {sum_of(leaves - half)})"


def nested(head, times, inner="0"):
    return head * times + inner + ")" * times


class Taken(unittest.TestCase):
    def hold(self, text, nodes):
        with self.subTest(text=text):
            told = ask(program(text), SHOW, SIZE)
            self.assertEqual(told[0], [nodes])
            self.assertEqual(shown(told[1]), text)
            self.assertEqual(told[2][:3], [nodes, nodes, 1])

    def test_numbers(self):
        for number in range(100):
            self.hold(str(number), 1)

    def test_each_kind(self):
        for text, nodes in (
                ("in", 1), ("(fun x x)", 2), ("(fun x 0)", 2), ("(in 0)", 3), ("(0 1)", 3),
                ("((fun x x) (fun y y))", 5), ("(let x 1 x)", 3), ("(if 0 1 2)", 4), ("(pair 1 in)", 3),
                ("(fst 1)", 2), ("(snd in)", 2), ("(new 0)", 2), ("(get 0)", 2), ("(set 0 1)", 3), ("(add 1 99)", 3),
                ("(if (add 1 2) (pair (fst in) (snd 0)) (set (new 1) (get (fun x x))))", 15)):
            self.hold(text, nodes)

    def test_names(self):
        for name in ("a", "z", "ab", "abc", "abcd", "zzzz", "i", "n", "inn", "ini", "fu", "funs", "lets", "ifs", "adds"):
            self.hold(f"(fun {name} {name})", 2)
            self.hold(f"(let {name} 0 ({name} {name}))", 5)

    def test_names_that_mean_nothing(self):
        for name in ("call", "name", "node", "num", "text"):
            self.hold(f"(let {name} (fun {name} {name}) ({name} {name}))", 6)

    def test_bound_around(self):
        self.hold("(let x 1 (let y x (fun z (add x (add y z)))))", 10)
        self.hold("(let x 1 (let x x x))", 5)
        self.hold("(fun x (fun x x))", 3)
        self.hold("(fun x (let x (add x 1) (add x in)))", 8)

    def test_the_most_nodes(self):
        self.hold(f"(new {sum_of(15)})", 30)

    def test_the_deepest_nodes(self):
        self.hold(nested("(new ", 8), 9)
        self.hold(nested("(fun x ", 8, "x"), 9)
        self.hold(nested("(let x 1 ", 8, "x"), 17)
        self.hold("(" * 8 + "in" + " 0)" * 8, 17)

    def test_it_is_the_first_program_too(self):
        told = ask(program("((fun x x) 1)"), place(0), program("(pair 1 2)"), SIZE, SHOW)
        self.assertEqual(told[2:4], [[3], [3, 3, 1, 0]])
        self.assertEqual(shown(told[4]), "(pair 1 2)")

    def test_strings_stay(self):
        self.assertEqual(ask(strings(2), program("(add 1 2)"), SIZE)[2], [3, 3, 2, 0])


class NotTaken(unittest.TestCase):
    def hold(self, *texts):
        for text in texts:
            with self.subTest(text=text):
                told = ask(program("(new in)"), program(text), SHOW, SIZE)
                self.assertEqual(told[1], [-1])
                self.assertEqual(shown(told[2]), "(new in)")
                self.assertEqual(told[3], [2, 2, 1, 0])

    def test_nothing(self):
        self.hold("", " ", "()", "( )", ")", "(")

    def test_blanks(self):
        self.hold(" 0", "0 ", " (new 0)", "(new 0) ", "(new  0)", "( new 0)", "(new 0 )", "(add 1  2)", "(add 1 2 )")
        self.hold("(let  x 1 x)", "(let x  1 x)", "(fun x  x)", "(0  1)", "( 0 1)", "(0 1 )", "1 0", "i n")

    def test_blanks_that_are_missing(self):
        self.hold("(new(new 0))", "(add 1(new 2))", "(add (new 1)2)", "((fun x x)1)", "(add12)", "(funx x)", "(new0)")
        self.hold("((fun x x)(fun y y))", "(fun x(new x))", "(1(new 2))")

    def test_numbers(self):
        self.hold("00", "07", "01", "100", "101", "999", "1000", "-1", "+1", "1.0", "1a", "a1", "0x1", "1_0", "1" * 2000)
        self.hold("(add 00 1)", "(new 100)", "(pair 1 09)")

    def test_names(self):
        self.hold("(fun abcde abcde)", "(fun abcde 0)", "(let abcde 0 0)", "(fun X X)", "(fun aB aB)", "(fun x1 x1)")
        self.hold("(fun 1 1)", "(fun 1 0)", "(let 0 0 0)", "(fun _ _)", "(fun x x1)", "(fun (new x) 0)", "(fun (x) x)")
        self.hold("In", "IN", "inin", "in1", "a" * 2000)

    def test_words_that_are_no_names(self):
        for word in WORDS:
            self.hold(word, f"({word})", f"(fun {word} 0)", f"(fun {word} {word})", f"(let {word} 0 0)", f"(new {word})")
            self.hold(f"(0 {word})", f"(let x 0 {word})", f"(let x {word} 0)", f"(({word}) 0)")

    def test_in_is_not_bound(self):
        self.hold("(fun in 0)", "(fun in in)", "(let in 0 0)", "(let in 0 in)")

    def test_names_that_are_not_bound(self):
        self.hold("x", "(new x)", "(fun x y)", "(x 0)", "(let x x 0)", "(let x (add x 1) x)")
        self.hold("((fun x x) x)", "(add (let x 1 x) x)", "(pair (fun x x) x)", "(if (let a 0 a) a 0)")
        self.hold("(fun x (add (let y 1 y) y))", "(let f (fun x (f x)) f)")

    def test_parts_too_few_or_too_many(self):
        self.hold("(0)", "(0 1 2)", "(in)", "((0 1))", "(fun x)", "(fun 0)", "(fun x 0 1)", "(fun x y 0)", "(let x 0)")
        self.hold("(let x)", "(let x 0 0 0)", "(if 0 1)", "(if 0)", "(if 0 1 2 3)")
        for word in ("fst", "snd", "new", "get"):
            self.hold(f"({word} 0 1)", f"({word} )")
        for word in ("pair", "set", "add"):
            self.hold(f"({word} 0)", f"({word} 0 1 2)", f"({word} )")

    def test_a_part_that_stands_in_the_wrong_brackets(self):
        self.hold("(add (new 0 1) 2)", "(add (add 0) 1 2)", "(pair (if 0 1) 2 3)", "(add (new) 0 1)", "(add 0 (new 1 2))")

    def test_brackets(self):
        self.hold("(new 0", "new 0)", "(new 0))", "((new 0)", "((new 0))", "(add 1 (new 2)", "(add 1 (new 2)))", ")new 0(")
        self.hold("(0)", "((0) 1)", "(0 (1))", "[new 0]", "{new 0}")

    def test_anything_behind(self):
        self.hold("0 0", "0(", "0)", "0()", "(new 0)0", "(new 0) 0", "(new 0)(new 0)", "in in", "(new 0)x")

    def test_other_bytes(self):
        for byte in [number for number in range(256) if not 48 <= number <= 57]:
            self.hold([byte])
        allowed = [ord(sign) for sign in " ()0123456789abcdefghijklmnopqrstuvwxyz"]
        for byte in [number for number in range(256) if number not in allowed]:
            text = [ord(sign) for sign in "(new 1)"]
            for at in range(len(text) + 1):
                self.hold(text[:at] + [byte] + text[at:])
            self.hold(text[:4] + [byte] + text[5:], text[:5] + [byte] + text[6:])

    def test_a_node_too_many(self):
        self.hold(sum_of(16), f"(new {sum_of(15)} 1)", f"(new (new {sum_of(15)}))", f"(pair {sum_of(15)} in)")

    def test_a_node_too_deep(self):
        self.hold(nested("(new ", 9), nested("(fun x ", 9, "x"), nested("(let x 1 ", 9, "x"), "(" * 9 + "in" + " 0)" * 9)
        self.hold("(add 1 " + nested("(new ", 8) + ")", "(add " + nested("(new ", 8) + " 1)")

    def test_long_texts(self):
        self.hold("(" * 2000, ")" * 2000, "(" * 1000 + ")" * 1000, " " * 2000, "(new " * 400, nested("(new ", 333))
        self.hold("(fun " * 400, "(let " * 400, "in " * 666, "(" * 999 + "0" + " 0)" * 333, "()" * 1000, "0" * 2000)


class Strings(unittest.TestCase):
    def test_of_how_many_they_were(self):
        told = ask(strings(0), strings(2), strings(2), strings(1), strings(0), SIZE)
        self.assertEqual(told, [[1], [0], [2], [2], [1], [1, 1, 0, 0]])

    def test_refused(self):
        for k in (-1, 3, 4, -2, HUGE, -HUGE, HUGE - 1):
            with self.subTest(k=k):
                self.assertEqual(ask(strings(2), strings(k), SIZE, strings(0)), [[1], [-2], [1, 1, 2, 0], [2]])


class Show(unittest.TestCase):
    def test_a_new_object(self):
        self.assertEqual(ask(SHOW), [[1, 48]])

    def test_bytes_and_how_many(self):
        self.assertEqual(ask(program("(fst in)"), SHOW)[1], [8, 40, 102, 115, 116, 32, 105, 110, 41])

    def test_behind_place_and_placeall(self):
        told = ask(program("(let f (fun x (new x)) (add (f 1) (f in)))"), place(8), SHOW, PLACEALL, SHOW)
        self.assertEqual(shown(told[2]), "(let f (fun x (new x)) (add (f 1) (let x in (new x))))")
        self.assertEqual(shown(told[4]), "(let f (fun x (new x)) (add (let x 1 (new x)) (let x in (new x))))")


class Size(unittest.TestCase):
    def test_a_new_object(self):
        self.assertEqual(ask(SIZE), [[1, 1, 1, 0]])

    def test_the_four_numbers(self):
        text = "(let f (fun x (new x)) (add (f 1) (f in)))"
        told = ask(program(text), SIZE, place(5), SIZE, strings(2), SIZE, PLACEALL, SIZE, program("9"), SIZE)
        self.assertEqual(told[1::2], [[11, 11, 1, 2], [11, 12, 1, 1], [11, 12, 2, 1], [11, 13, 2, 0], [1, 1, 2, 0]])

    def test_behind_prune_and_again(self):
        text = "(let f (fun x (new x)) (pair (f 1) (fun y ((f y) (f 2)))))"
        told = ask(program(text), SIZE, PRUNE, SIZE, place(5), SIZE, PRUNE, SIZE, AGAIN, SIZE, strings(0), SIZE)
        self.assertEqual(told[1::2], [[16, 16, 1, 4], [16, 10, 1, 1], [16, 11, 1, 0], [16, 10, 1, 0], [16, 16, 1, 4],
                                      [16, 16, 0, 4]])

    def test_what_changes_nothing(self):
        told = ask(program("((fun x x) 1)"), run(1), SIZE, SAME, SIZE, handed(0, 1), SIZE, SHOW, SIZE)
        self.assertEqual(told[2::2], [[4, 4, 1, 1]] * 4)

    def test_calls_count_wherever_they_stand(self):
        self.assertEqual(ask(program("(fun x ((x x) (0 1)))"), SIZE)[1], [8, 8, 1, 3])


if __name__ == "__main__":
    unittest.main()
