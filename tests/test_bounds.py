"""[3.4] and [3.5], and the section diesnon/bounds.py of the interface."""

import random
import unittest

from diesnon.bounds import Bounds
from diesnon.errors import Missing, NotAllowed
from diesnon.rings import find_ring, satisfies
from tests.test_rings import BIG, some_literals


def plain_bounds(n, literals):
    """The table of all bounds, found over all points in between."""
    rows = [[0 if a == b else None for b in range(n)] for a in range(n)]
    for a, b, c in literals:
        if rows[a][b] is None or c < rows[a][b]:
            rows[a][b] = c
    for k in range(n):
        for a in range(n):
            for b in range(n):
                if rows[a][k] is not None and rows[k][b] is not None:
                    told = rows[a][k] + rows[k][b]
                    if rows[a][b] is None or told < rows[a][b]:
                        rows[a][b] = told
    return rows


class Points(unittest.TestCase):
    def test_sizes(self):
        for n in (1, 2, 80):
            self.assertEqual(Bounds(n).size(), n)
        for n in (0, -1, 81, BIG):
            with self.assertRaises(NotAllowed):
                Bounds(n)

    def test_no_points(self):
        bounds = Bounds(3)
        bounds.add(1, 0, 2)
        for a, b in ((3, 0), (0, 3), (-1, 0), (0, -1), (BIG, BIG), (3, 3)):
            for call in (lambda: bounds.add(a, b, 0), lambda: bounds.bound(a, b), lambda: bounds.values_at(a, b),
                         lambda: bounds.values_beyond(a, b, 0)):
                with self.assertRaises(NotAllowed):
                    call()
        self.assertEqual(bounds.literals(), [(1, 0, 2)])


class Case(unittest.TestCase):
    def check(self, bounds, dice):
        """Compares all that the bounds tell with what follows from their literals."""
        n, literals = bounds.size(), bounds.literals()
        rows = plain_bounds(n, literals)
        self.values_fit(bounds, bounds.any_values())
        for a in range(n):
            for b in range(n):
                self.assertEqual(bounds.bound(a, b), rows[a][b])
                if rows[a][b] is None:
                    least = dice.choice((-BIG, -3, 0, 5, BIG))
                    values = bounds.values_beyond(a, b, least)
                    self.assertGreaterEqual(values[a] - values[b], least)
                    with self.assertRaises(Missing):
                        bounds.values_at(a, b)
                else:
                    values = bounds.values_at(a, b)
                    self.assertEqual(values[a] - values[b], rows[a][b])
                    with self.assertRaises(NotAllowed):
                        bounds.values_beyond(a, b, -BIG)
                self.values_fit(bounds, values)
        self.assertEqual(bounds.literals(), literals)

    def values_fit(self, bounds, values):
        self.assertIsInstance(values, tuple)
        self.assertEqual((len(values), values[0]), (bounds.size(), 0))
        self.assertTrue(satisfies(values, bounds.literals()))


class Adding(Case):
    def test_alone(self):
        bounds = Bounds(2)
        self.assertIs(bounds.add(1, 1, -1), False)
        self.assertIs(bounds.add(0, 0, -BIG), False)
        self.assertIs(bounds.add(1, 1, 0), True)
        self.assertIs(bounds.add(0, 0, BIG), True)
        self.assertEqual(bounds.literals(), [(1, 1, 0), (0, 0, BIG)])
        self.assertEqual(bounds.bound(0, 0), 0)

    def test_together(self):
        bounds = Bounds(3)
        self.assertIs(bounds.add(0, 1, -BIG), True)
        self.assertIs(bounds.add(1, 2, 4), True)
        self.assertIs(bounds.add(2, 0, BIG - 5), False)
        self.assertIsNone(bounds.bound(2, 0))
        self.assertIs(bounds.add(2, 0, BIG - 4), True)
        self.assertEqual(bounds.bound(2, 1), -4)
        self.assertIs(bounds.add(1, 2, 3), False)
        self.assertEqual(bounds.literals(), [(0, 1, -BIG), (1, 2, 4), (2, 0, BIG - 4)])

    def test_twice_and_weaker(self):
        bounds = Bounds(2)
        for c in (5, 5, 9, 3):
            self.assertIs(bounds.add(1, 0, c), True)
        self.assertEqual(bounds.literals(), [(1, 0, 5), (1, 0, 5), (1, 0, 9), (1, 0, 3)])
        self.assertEqual(bounds.bound(1, 0), 3)

    def test_nothing_kept(self):
        self.check(Bounds(1), random.Random(0))
        self.check(Bounds(4), random.Random(0))

    def test_random(self):
        dice = random.Random(21)
        refused = 0
        for _ in range(120):
            n = dice.randint(1, 7)
            width = dice.choice((3, 10, BIG))
            bounds, kept = Bounds(n), []
            for literal in some_literals(dice, n, dice.randint(0, 10), width):
                told = bounds.add(*literal)
                self.assertIs(told, find_ring(n, [*kept, literal]) is None)
                if told:
                    kept.append(literal)
                else:
                    refused += 1
                self.assertEqual(bounds.literals(), kept)
            self.check(bounds, dice)
        self.assertGreater(refused, 50)

    def test_many_points(self):
        bounds = Bounds(80)
        for k in range(79):
            self.assertIs(bounds.add(k + 1, k, -BIG), True)
        self.assertEqual(bounds.bound(79, 0), -79 * BIG)
        self.assertIsNone(bounds.bound(0, 79))
        self.assertIs(bounds.add(0, 79, 79 * BIG - 1), False)
        self.values_fit(bounds, bounds.values_beyond(0, 79, BIG ** 2))
        self.assertIs(bounds.add(0, 79, 79 * BIG), True)
        self.values_fit(bounds, bounds.values_at(0, 40))


class Copies(Case):
    def test_lists_are_new(self):
        bounds = Bounds(2)
        bounds.add(1, 0, 5)
        bounds.literals().append((0, 1, 1))
        self.assertEqual(bounds.literals(), [(1, 0, 5)])

    def test_copy(self):
        dice = random.Random(22)
        first = Bounds(4)
        first.add(1, 0, 5)
        second = first.copy()
        third = second.copy()
        self.assertIs(first.add(0, 1, -5), True)
        self.assertIs(second.add(0, 1, -6), False)
        self.assertIs(second.add(2, 1, 7), True)
        self.assertEqual(first.literals(), [(1, 0, 5), (0, 1, -5)])
        self.assertEqual(second.literals(), [(1, 0, 5), (2, 1, 7)])
        self.assertEqual(third.literals(), [(1, 0, 5)])
        self.assertEqual((first.bound(2, 0), second.bound(2, 0), third.bound(2, 0)), (None, 12, None))
        self.assertEqual((first.bound(0, 1), second.bound(0, 1)), (-5, None))
        for bounds in (first, second, third):
            self.assertEqual(bounds.size(), 4)
            self.check(bounds, dice)

    def test_values_change_nothing(self):
        bounds = Bounds(3)
        bounds.add(1, 0, 5)
        bounds.values_at(1, 0)
        bounds.values_beyond(0, 1, 100)
        bounds.any_values()
        self.assertIsNone(bounds.bound(0, 1))
        self.assertEqual(bounds.literals(), [(1, 0, 5)])
