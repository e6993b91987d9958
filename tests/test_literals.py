"""[4.1], and the section diesnon/literals.py of the interface."""

import random
import unittest

from diesnon.literals import all_hold, clause_holds, denial, literal_holds

BIG = 10 ** 40


class Literals(unittest.TestCase):
    def test_denial(self):
        for literal, told in (((1, 2, 5), (2, 1, -6)), ((0, 0, 0), (0, 0, -1)), ((3, 1, -1), (1, 3, 0)),
                              ((7, 0, BIG), (0, 7, -BIG - 1))):
            self.assertEqual(denial(literal), told)
            self.assertEqual(denial(told), literal)

    def test_holds(self):
        for literal, told in (((1, 0, 5), True), ((1, 0, 4), False), ((0, 1, -5), True), ((0, 1, -6), False),
                              ((2, 1, -8), True), ((2, 1, -9), False), ((1, 1, 0), True), ((1, 1, -1), False)):
            for values in ((0, 5, -3), [0, 5, -3], (BIG, BIG + 5, BIG - 3)):
                self.assertIs(literal_holds(literal, values), told)
                self.assertIs(literal_holds(denial(literal), values), not told)

    def test_clauses(self):
        values = [0, 5]
        for clause, told in (((), False), (((1, 0, 4),), False), (((1, 0, 5),), True),
                             (((1, 0, 4), (0, 1, -5)), True), (((1, 0, 4), (0, 1, -6)), False)):
            self.assertIs(clause_holds(clause, values), told)
            self.assertIs(all_hold([clause], values), told)
            self.assertIs(all_hold((((1, 0, 5),), clause), values), told)
            self.assertIs(all_hold((clause, ((1, 0, 4),)), values), False)
        self.assertIs(all_hold([], [0]), True)
        self.assertIs(all_hold((), ()), True)

    def test_random(self):
        dice = random.Random(41)
        for _ in range(300):
            values = [dice.randint(-5, 5) for _ in range(4)]
            a, b, c = dice.randrange(4), dice.randrange(4), dice.randint(-6, 6)
            self.assertIs(literal_holds((a, b, c), values), values[a] <= values[b] + c)
