"""[1.2] to [1.6], and the section diesnon/stretches.py of the interface."""

import random
import unittest

from diesnon.errors import NotAllowed
from diesnon.stretches import (
    both, closed_days, count_open, cut, either, free, inside, is_closed_days, is_open, longest,
    next_open, nth_open, prev_open, shut, stretch_at,
)
from tests.samples import closed_of, days_of, some_closed

LOW, HIGH = -15, 15
WIDE = range(-60, 61)
BIG = 10 ** 60


def all_small_closed():
    """The closed days of all sets of the days 0 to 6."""
    for mask in range(2 ** 7):
        yield closed_of([day for day in range(7) if mask >> day & 1])


class Forms(unittest.TestCase):
    def test_good(self):
        for pairs in ((), ((0, 0),), ((-5, -3), (-1, -1), (1, 9)), ((1, 2), (4, 4)),
                      ((-BIG, BIG), (BIG + 2, BIG + 2))):
            self.assertIs(is_closed_days(pairs), True)

    def test_bad(self):
        for pairs in (((1, 0),), ((1, 2), (3, 4)), ((1, 2), (2, 4)), ((4, 5), (1, 2)),
                      ((1, 2), (1, 2)), ((1, 5), (2, 3)), ((0, 0), (2, 1)), ((0, 0), (1, 1)),
                      ((BIG, BIG), (BIG + 1, BIG + 1)), ((2, 3), (5, 9), (9, 12))):
            self.assertIs(is_closed_days(pairs), False)

    def test_booleans_are_no_days(self):
        self.assertIs(is_closed_days(((False, 1),)), False)
        self.assertIs(is_closed_days(((0, True),)), False)

    def test_one_form_for_each_set(self):
        pairs = [(first, last) for first in range(-1, 4) for last in range(-1, 4)]
        rows = [()] + [(a,) for a in pairs] + [(a, b) for a in pairs for b in pairs]
        good = [row for row in rows if is_closed_days(row)]
        for row in good:
            self.assertEqual(row, closed_of(days_of(row)))
        self.assertEqual(len(good), len({frozenset(days_of(row)) for row in good}))


class ClosedDays(unittest.TestCase):
    def test_joins(self):
        self.assertEqual(closed_days([]), ())
        self.assertEqual(closed_days([(3, 3)]), ((3, 3),))
        self.assertEqual(closed_days([(5, 6), (1, 2)]), ((1, 2), (5, 6)))
        self.assertEqual(closed_days([(3, 4), (1, 2)]), ((1, 4),))
        self.assertEqual(closed_days([(1, 2), (4, 5)]), ((1, 2), (4, 5)))
        self.assertEqual(closed_days([(1, 9), (2, 3), (1, 9), (4, 12)]), ((1, 12),))
        self.assertEqual(closed_days([(0, BIG), (BIG + 1, 2 * BIG)]), ((0, 2 * BIG),))

    def test_against_sets(self):
        dice = random.Random(1)
        for _ in range(400):
            firsts = [dice.randint(LOW, HIGH) for _ in range(dice.randint(0, 6))]
            pairs = [(first, first + dice.randint(0, 5)) for first in firsts]
            kept = list(pairs)
            self.assertEqual(closed_days(pairs), closed_of(days_of(pairs)))
            self.assertEqual(pairs, kept)

    def test_wrong_order(self):
        for pairs in ([(2, 1)], [(1, 2), (BIG, -BIG)], [(0, 9), (3, 2)]):
            with self.assertRaises(NotAllowed):
                closed_days(pairs)


class OpenDays(unittest.TestCase):
    def test_small_sets_day_by_day(self):
        for closed in all_small_closed():
            taken = days_of(closed)
            for day in range(-2, 10):
                after = [other for other in WIDE if other >= day and other not in taken]
                before = [other for other in WIDE if other <= day and other not in taken]
                self.assertIs(is_open(closed, day), day not in taken)
                self.assertEqual(next_open(closed, day), after[0])
                self.assertEqual(prev_open(closed, day), before[-1])
                holding = [pair for pair in closed if pair[0] <= day <= pair[1]]
                self.assertEqual(stretch_at(closed, day), holding[0] if holding else None)

    def test_nth_day_by_day(self):
        for closed in all_small_closed():
            taken = days_of(closed)
            for day in range(-2, 10):
                after = [other for other in WIDE if other > day and other not in taken]
                before = [other for other in WIDE if other < day and other not in taken]
                for n in range(1, 12):
                    self.assertEqual(nth_open(closed, day, n), after[n - 1])
                    self.assertEqual(nth_open(closed, day, -n), before[-n])

    def test_nth_zero(self):
        for closed in ((), ((0, 5),)):
            with self.assertRaises(NotAllowed):
                nth_open(closed, 3, 0)

    def test_empty_calendar(self):
        self.assertEqual((next_open((), 5), prev_open((), 5)), (5, 5))
        self.assertEqual((nth_open((), 5, BIG), nth_open((), 5, -BIG)), (5 + BIG, 5 - BIG))
        self.assertEqual(count_open((), -BIG, BIG), 2 * BIG)
        self.assertIsNone(stretch_at((), 0))

    def test_long(self):
        closed = ((0, BIG), (BIG + 3, 2 * BIG))
        self.assertEqual(next_open(closed, 7), BIG + 1)
        self.assertEqual(prev_open(closed, 2 * BIG), BIG + 2)
        self.assertEqual(nth_open(closed, -1, 3), 2 * BIG + 1)
        self.assertEqual(nth_open(closed, -1, 3 + BIG), 3 * BIG + 1)
        self.assertEqual(nth_open(closed, BIG + 5, -3), -1)
        self.assertEqual(nth_open(closed, BIG + 5, -3 - BIG), -1 - BIG)
        self.assertEqual(count_open(closed, -BIG, 3 * BIG), BIG + 2 + BIG - 1)
        self.assertEqual(longest(closed), BIG + 1)

    def test_count_day_by_day(self):
        for closed in all_small_closed():
            taken = days_of(closed)
            for first in range(-2, 9):
                for behind in range(-2, 9):
                    told = len([day for day in range(first, behind) if day not in taken])
                    self.assertEqual(count_open(closed, first, behind), told)

    def test_count_of_nothing(self):
        self.assertEqual(count_open(((2, 3),), 5, 5), 0)
        self.assertEqual(count_open(((2, 3),), 5, -BIG), 0)


class Changes(unittest.TestCase):
    def test_small_sets_day_by_day(self):
        for closed in all_small_closed():
            taken = days_of(closed)
            for first in range(-2, 9):
                for last in range(first, 9):
                    days = set(range(first, last + 1))
                    self.assertEqual(shut(closed, first, last), closed_of(taken | days))
                    self.assertEqual(free(closed, first, last), closed_of(taken - days))
                    self.assertEqual(cut(closed, first, last), closed_of(taken & days))

    def test_long(self):
        closed = ((0, BIG),)
        self.assertEqual(shut(closed, BIG + 1, 2 * BIG), ((0, 2 * BIG),))
        self.assertEqual(free(closed, 5, 5), ((0, 4), (6, BIG)))
        self.assertEqual(free(closed, -BIG, 2 * BIG), ())
        self.assertEqual(cut(closed, -BIG, 7), ((0, 7),))

    def test_wrong_order(self):
        for change in (shut, free, cut):
            for closed in ((), ((0, 9),)):
                with self.assertRaises(NotAllowed):
                    change(closed, 4, 3)
                with self.assertRaises(NotAllowed):
                    change(closed, BIG, -BIG)

    def test_longest(self):
        self.assertEqual(longest(()), 0)
        self.assertEqual(longest(((5, 5),)), 1)
        self.assertEqual(longest(((0, 3), (7, 12), (20, 21))), 6)


class TwoCalendars(unittest.TestCase):
    def test_against_sets(self):
        small = list(all_small_closed())
        for first in small:
            one = days_of(first)
            for second in small:
                two = days_of(second)
                self.assertEqual(both(first, second), closed_of(one | two))
                self.assertEqual(either(first, second), closed_of(one & two))
                self.assertIs(inside(first, second), two <= one)

    def test_random(self):
        dice = random.Random(2)
        for _ in range(300):
            first = some_closed(dice, LOW, HIGH, dice.random())
            second = some_closed(dice, LOW, HIGH, dice.random())
            one, two = days_of(first), days_of(second)
            self.assertEqual(both(first, second), closed_of(one | two))
            self.assertEqual(either(first, second), closed_of(one & two))
            self.assertIs(inside(first, second), two <= one)

    def test_long(self):
        first, second = ((0, BIG),), ((5, 2 * BIG),)
        self.assertEqual(both(first, second), ((0, 2 * BIG),))
        self.assertEqual(either(first, second), ((5, BIG),))
        self.assertIs(inside(first, second), False)
        self.assertIs(inside(((-1, 2 * BIG),), second), True)
