"""Promise 12: again."""

import unittest

from tests.helper import (AGAIN, DEAD, DIRECT, PLACEALL, PRUNE, SAME, SHOW, SIZE, ask, place, program, run, shown,
                          strings)

TEXT = "(let f (fun x (new x)) (pair (fun y (f y)) (pair (f 1) (f in))))"


class Again(unittest.TestCase):
    def hold(self, *changes):
        told = ask(program(TEXT), SIZE, DIRECT, DEAD, *changes, AGAIN, SHOW, SIZE, DIRECT, DEAD, SAME)
        self.assertEqual(told[-6], [16])
        self.assertEqual(shown(told[-5]), TEXT)
        self.assertEqual(told[-4], [16, 16, 1, 3])
        self.assertEqual(told[-4:-1], told[1:4])
        self.assertEqual(told[-1], [1])
        return told[4:-6]

    def test_behind_nothing(self):
        self.assertEqual(ask(AGAIN, SHOW, AGAIN), [[1], [1, 48], [1]])
        self.hold()

    def test_behind_place(self):
        self.assertEqual(self.hold(place(10)), [[17]])
        self.assertEqual(self.hold(place(10), place(14)), [[17], [18]])

    def test_behind_placeall(self):
        self.assertEqual(self.hold(PLACEALL), [[2, 18]])

    def test_behind_prune(self):
        self.assertEqual(self.hold(PRUNE), [[1, 14]])

    def test_behind_several(self):
        self.assertEqual(self.hold(place(10), PRUNE, PLACEALL, PRUNE), [[17], [1, 15], [1, 16], [2, 15]])
        self.assertEqual(self.hold(PRUNE, AGAIN, AGAIN), [[1, 14], [16], [16]])

    def test_behind_refused_programs(self):
        self.assertEqual(self.hold(program("(fst 0")), [[-1]])
        self.assertEqual(self.hold(PRUNE, program("x"), program("")), [[1, 14], [-1], [-1]])

    def test_behind_a_new_program(self):
        told = ask(program(TEXT), PRUNE, program("(add in 1)"), AGAIN, SHOW, run(2))
        self.assertEqual([told[3], told[5]], [[3], [0, 0, 3, 3]])
        self.assertEqual(shown(told[4]), "(add in 1)")

    def test_strings_stay(self):
        told = ask(program(TEXT), strings(2), PRUNE, AGAIN, SIZE, strings(0), PRUNE, AGAIN, SIZE, strings(1))
        self.assertEqual([told[4], told[5]], [[16, 16, 2, 3], [2]])
        self.assertEqual([told[8], told[9]], [[16, 16, 0, 3], [0]])

    def test_the_first_program_is_kept_whole(self):
        told = ask(program(TEXT), PRUNE, AGAIN, PLACEALL, AGAIN, place(10), AGAIN, PRUNE, AGAIN, SHOW)
        self.assertEqual(told[1:9], [[1, 14], [16], [2, 18], [16], [17], [16], [1, 14], [16]])
        self.assertEqual(shown(told[9]), TEXT)


if __name__ == "__main__":
    unittest.main()
