"""[3.1] to [3.3], and the section diesnon/rings.py of the interface."""

import itertools
import random
import unittest

from diesnon.errors import NotAllowed
from diesnon.rings import MAX_POINTS, check_literals, check_points, find_ring, is_ring, satisfies

BIG = 10 ** 30


def some_literals(dice, n, count, width=4):
    return [(dice.randrange(n), dice.randrange(n), dice.randint(-width, width)) for _ in range(count)]


def have_values(n, literals):
    """True if some values satisfy the literals; those of a few points are tried one by one."""
    width = (n - 1) * max([abs(c) for _, _, c in literals], default=0)
    return any(all((0, *rest)[a] - (0, *rest)[b] <= c for a, b, c in literals)
               for rest in itertools.product(range(-width, width + 1), repeat=n - 1))


class Checks(unittest.TestCase):
    def test_points(self):
        self.assertEqual(MAX_POINTS, 80)
        for n in (1, 2, 79, 80):
            self.assertIsNone(check_points(n))
        for n in (0, -1, 81, BIG, -BIG):
            with self.assertRaises(NotAllowed):
                check_points(n)
            with self.assertRaises(NotAllowed):
                check_literals(n, [])
            with self.assertRaises(NotAllowed):
                find_ring(n, [])

    def test_literals(self):
        self.assertIsNone(check_literals(1, []))
        self.assertIsNone(check_literals(3, [(0, 2, -BIG), (2, 2, BIG), (1, 0, 0)]))
        for literal in ((3, 0, 1), (0, 3, 1), (-1, 0, 1), (0, -1, 1), (BIG, 0, 0), (3, 3, 0)):
            for literals in ([literal], [(0, 0, -1), literal], [literal, (0, 0, -1)]):
                with self.assertRaises(NotAllowed):
                    check_literals(3, literals)
                with self.assertRaises(NotAllowed):
                    find_ring(3, literals)
        self.assertIsNone(check_literals(80, [(79, 0, 1)]))
        with self.assertRaises(NotAllowed):
            check_literals(80, [(80, 0, 1)])


class Satisfies(unittest.TestCase):
    def test_told(self):
        values = (0, 5, 7)
        for literals, told in (([], True), ([(1, 0, 5)], True), ([(1, 0, 4)], False), ([(0, 1, -5)], True),
                               ([(0, 1, -6)], False), ([(1, 0, 5), (2, 1, 1)], False), ([(1, 1, 0)], True),
                               ([(1, 1, -1)], False), ([(2, 1, 2), (1, 2, -2)], True)):
            self.assertIs(satisfies(values, literals), told)

    def test_any_first_value_and_size(self):
        self.assertIs(satisfies((BIG, 2 * BIG), [(1, 0, BIG)]), True)
        self.assertIs(satisfies((BIG, 2 * BIG), [(1, 0, BIG - 1)]), False)


class IsRing(unittest.TestCase):
    def test_told(self):
        for ring, told in (
            ((), False), (((4, 4, -1),), True), (((4, 4, 0),), False), (((4, 5, -1),), False),
            (((1, 0, 5), (0, 1, -6)), True), (((1, 0, 5), (0, 1, -5)), False), (((1, 0, 5), (1, 0, -6)), False),
            (((0, 1, 2), (1, 2, 3), (2, 0, -6)), True), (((0, 1, 2), (2, 0, -6), (1, 2, 3)), False),
            (((1, 0, -3), (0, 1, -3), (1, 0, -3)), False), (((0, 0, -1), (0, 0, -1)), True),
            (((0, 1, -9), (1, 0, 5), (0, 1, -9), (1, 0, 5)), True), (((-7, BIG, -BIG), (BIG, -7, BIG - 1)), True),
            (((0, 1, -9), (1, 2, -9)), False), (((2, 1, -9), (1, 0, -9), (0, 1, -9)), False),
        ):
            self.assertIs(is_ring(ring), told)


class FindRing(unittest.TestCase):
    def check(self, n, literals):
        kept = list(literals)
        ring = find_ring(n, literals)
        self.assertEqual(literals, kept)
        if ring is not None:
            self.assertIsInstance(ring, tuple)
            self.assertTrue(is_ring(ring))
            self.assertLessEqual(set(ring), set(literals))
        return ring is not None

    def test_small(self):
        for literals, told in (([], False), ([(0, 0, -1)], True), ([(0, 0, 0)], False),
                               ([(1, 0, 5), (0, 1, -5)], False), ([(1, 0, 5), (0, 1, -6)], True),
                               ([(1, 0, -1), (2, 1, -1)], False), ([(0, 1, 1), (1, 2, 1), (2, 0, -2)], False),
                               ([(0, 1, 1), (1, 2, 1), (2, 0, -3)], True)):
            self.assertIs(self.check(3, literals), told)

    def test_against_all_values(self):
        dice = random.Random(19)
        told = []
        for _ in range(600):
            n = dice.randint(1, 3)
            literals = some_literals(dice, n, dice.randint(0, 6), 3)
            told.append(self.check(n, literals))
            self.assertIs(told[-1], not have_values(n, literals))
        self.assertEqual(set(told), {True, False})

    def test_long_rings(self):
        for last, told in ((-79 * BIG, False), (-79 * BIG - 1, True)):
            literals = [(k, k + 1, BIG) for k in range(79)] + [(79, 0, last)]
            self.assertIs(self.check(80, literals), told)
            self.assertIs(self.check(80, literals[::-1]), told)

    def test_random_large(self):
        dice = random.Random(20)
        for _ in range(60):
            n = dice.randint(5, 80)
            values = [dice.randint(-BIG, BIG) for _ in range(n)]
            pairs = [(dice.randrange(n), dice.randrange(n)) for _ in range(4 * n)]
            literals = [(a, b, values[a] - values[b] + dice.randint(0, 3)) for a, b in pairs]
            self.assertIs(self.check(n, literals), False)
            ring = dice.sample(range(n), dice.randint(1, min(n, 9)))
            for a, b in zip(ring, ring[1:] + ring[:1]):
                literals.append((a, b, values[a] - values[b]))
            self.assertIs(self.check(n, literals), False)
            literals[-1] = (literals[-1][0], literals[-1][1], literals[-1][2] - 1)
            dice.shuffle(literals)
            self.assertIs(self.check(n, literals), True)
