"""[5.1], [5.2], [5.5], [5.6], and the section diesnon/papers.py of the interface."""

import random
import unittest

from diesnon.errors import NotAllowed
from diesnon.papers import (
    MAX_CLAUSES, MAX_DEPTH, check_clauses, check_paper, depth_of, rings_of, trimmed, used_clauses, weight,
)
from diesnon.rings import is_ring
from diesnon.search import solve
from tests.problems import deep_paper, has_solution, jobs, planted_clauses, satisfied, some_clauses, staircase
from tests.samples import spoilt_nodes

BIG = 10 ** 40
RING = ("ring", ((1, 0, -1), (0, 1, 0)))
CLAUSES = [((1, 0, -1), (1, 0, -2)), ((0, 1, 0),), ((1, 0, 7),)]
PAPER = ("cases", 0, (RING, ("ring", ((1, 0, -2), (0, 1, 0)))))
SELF = ("ring", ((0, 0, -1),))


def plain_accepted(clauses, paper, assumed=frozenset(), depth=0):
    """[5.2] told once more, by recursion."""
    if not isinstance(paper, tuple) or not paper:
        return False
    if paper[0] == "ring" and len(paper) == 2 and isinstance(paper[1], tuple):
        for literal in paper[1]:
            if not isinstance(literal, tuple) or [type(part) for part in literal] != [int] * 3:
                return False
            if literal not in assumed and (literal,) not in clauses:
                return False
        return is_ring(paper[1])
    if paper[0] == "cases" and len(paper) == 3 and type(paper[1]) is int and isinstance(paper[2], tuple):
        if not 0 <= paper[1] < len(clauses) or depth == MAX_DEPTH:
            return False
        clause = clauses[paper[1]]
        return len(clause) == len(paper[2]) and all(
            plain_accepted(clauses, part, assumed | {literal}, depth + 1) for literal, part in zip(clause, paper[2]))
    return False


def plain_trimmed(clauses, paper):
    """[5.6] told once more: the trimmed paper, and the set of the literals that it needs."""
    if paper[0] == "ring":
        return paper, {literal for literal in paper[1] if (literal,) not in clauses}
    clause = clauses[paper[1]]
    parts = [plain_trimmed(clauses, part) for part in paper[2]]
    for literal, (part, needs) in zip(clause, parts):
        if literal not in needs:
            return part, needs
    needs = set().union(*[needs - {literal} for literal, (_, needs) in zip(clause, parts)])
    return ("cases", paper[1], tuple(part for part, _ in parts)), needs


def plain_used(clauses, paper, assumed=frozenset()):
    """[5.5] told once more."""
    if paper[0] == "ring":
        return {clauses.index((literal,)) for literal in paper[1] if literal not in assumed}
    told = {paper[1]}
    for literal, part in zip(clauses[paper[1]], paper[2]):
        told |= plain_used(clauses, part, assumed | {literal})
    return told


def padded(dice, clauses, paper, depth=3):
    """The same paper with cases around its parts that do not matter."""
    if paper[0] == "cases" and depth:
        paper = ("cases", paper[1], tuple(padded(dice, clauses, part, depth - 1) for part in paper[2]))
    if dice.random() < 0.5:
        k = dice.randrange(len(clauses))
        return ("cases", k, (paper,) * len(clauses[k])) if clauses[k] else paper
    return paper


class Checks(unittest.TestCase):
    def refused(self, n, clauses):
        for call in (lambda: check_clauses(n, clauses), lambda: check_paper(n, clauses, SELF),
                     lambda: used_clauses(n, clauses, SELF), lambda: trimmed(n, clauses, SELF),
                     lambda: solve(n, clauses)):
            with self.assertRaises(NotAllowed):
                call()

    def test_points(self):
        for n in (1, 2, 79, 80):
            self.assertIsNone(check_clauses(n, []))
            self.assertIsNone(check_clauses(n, [(), ((0, n - 1, BIG), (n - 1, 0, -BIG))]))
        for n in (0, -1, 81, BIG):
            self.refused(n, [])
        for literal in ((2, 0, 0), (0, 2, 0), (-1, 0, 0), (0, -1, 0), (BIG, 0, 0)):
            self.refused(2, [(literal,)])
            self.refused(2, [((0, 0, -1),), ((0, 0, 0), literal)])
        self.assertIsNone(check_clauses(80, [((79, 0, 1),)]))
        self.refused(80, [((80, 0, 1),)])

    def test_limit(self):
        self.assertEqual((MAX_CLAUSES, MAX_DEPTH), (8000, 8000))
        self.assertIsNone(check_clauses(1, [((0, 0, 0),)] * 8000))
        self.refused(1, [((0, 0, -1),)] * 8001)
        self.assertIs(check_paper(1, [((0, 0, -1),)] * 8000, SELF), True)
        self.assertEqual(solve(1, [((0, 0, 0),)] * 8000), ("values", (0,)))


class Accepted(unittest.TestCase):
    def check(self, n, clauses, paper, told):
        kept = list(clauses)
        self.assertIs(check_paper(n, clauses, paper), told, paper)
        self.assertEqual(clauses, kept)
        if not told:
            for call in (used_clauses, trimmed):
                with self.assertRaises(NotAllowed):
                    call(n, clauses, paper)

    def test_told(self):
        for paper, told in (
            (PAPER, True), (RING, False), (("cases", 0, (RING, RING)), False),
            (("cases", 0, (RING, ("ring", ((1, 0, -1), (0, 1, 0))))), False),
            (("cases", 0, (RING,)), False), (("cases", 0, (RING, RING, RING)), False),
            (("cases", 1, (PAPER,)), True), (("cases", 2, (PAPER,)), True), (("cases", 1, PAPER), False),
            (("cases", 3, (PAPER,)), False), (("cases", -1, (PAPER,)), False), (("cases", -3, PAPER[2]), False),
            (("cases", 0, (PAPER, PAPER)), True), (("cases", 1, ()), False),
            (("ring", ((0, 1, 0), (1, 0, 7))), False), (("ring", ()), False), (("cases", 0, ()), False),
        ):
            self.check(2, CLAUSES, paper, told)

    def test_rings(self):
        clauses = [((0, 0, -1),), ((1, 0, 3), (0, 1, -4)), ((1, 0, 3),), ((0, 1, -4),), ((1, 1, 0),)]
        for ring, told in ((((0, 0, -1),), True), (((0, 0, -1), (0, 0, -1)), True), (((1, 1, 0),), False),
                           (((1, 0, 3), (0, 1, -4)), True), (((1, 0, 3), (0, 1, -4), (1, 1, 0)), True),
                           (((0, 1, -4), (1, 0, 3), (0, 0, -1)), True), (((0, 1, -4), (0, 0, -1)), False),
                           (((1, 0, 2), (0, 1, -4)), False), (((0, 0, -2),), False)):
            self.check(2, clauses, ("ring", ring), told)
        self.check(2, clauses[1:2], ("ring", ((1, 0, 3), (0, 1, -4))), False)
        ring = ("ring", ((1, 0, 3), (0, 1, -4)))
        self.check(2, clauses[1:2], ("cases", 0, (ring, ring)), False)
        self.check(2, [clauses[2], clauses[1]], ("cases", 1, (ring, ring)), False)
        self.check(2, clauses[1:3], ("cases", 0, (("cases", 0, (ring, ring)), ring)), False)

    def test_assumed_on_the_way_only(self):
        clauses = [((1, 0, -1), (2, 0, -1)), ((0, 1, 0),), ((0, 2, 0),)]
        one, two = ("ring", ((1, 0, -1), (0, 1, 0))), ("ring", ((2, 0, -1), (0, 2, 0)))
        self.check(3, clauses, ("cases", 0, (one, two)), True)
        self.check(3, clauses, ("cases", 0, (two, one)), False)
        self.check(3, clauses, ("cases", 0, (one, one)), False)
        self.check(3, clauses, ("cases", 0, (one, ("cases", 0, (one, two)))), True)
        self.check(3, clauses, ("cases", 0, (("cases", 0, (one, one)), two)), True)
        self.check(3, clauses, ("cases", 0, (("cases", 0, (one, one)), one)), False)
        self.check(3, clauses, ("cases", 0, (("cases", 0, (one, two)), ("cases", 0, (two, one)))), False)

    def test_clauses_without_literals(self):
        self.check(1, [()], ("cases", 0, ()), True)
        self.check(1, [((0, 0, 0),), ()], ("cases", 1, ()), True)
        self.check(1, [((0, 0, 0),), ()], ("cases", 0, (("cases", 1, ()),)), True)
        self.check(1, [()], ("cases", 0, (("cases", 0, ()),)), False)
        self.check(1, [], ("cases", 0, ()), False)

    def test_equal_literals(self):
        clauses = [((0, 0, -1), (0, 0, -1)), ((1, 0, 0),), ((1, 0, 0),)]
        self.check(2, clauses, SELF, False)
        self.check(2, clauses, ("cases", 0, (SELF, SELF)), True)
        self.check(2, clauses, ("cases", 0, (SELF,)), False)

    def test_forms(self):
        junk = (0, 1, 7, -1, "", "ring", "cases", (), ((),), SELF, "x", ((0, 1, 0),), ("ring",), (0, 1), (0, 1, 0, 0))
        for paper in (*junk, ("ring", 5), ("ring", "x"), ("ring", (5,)), ("ring", ("abc",)), ("ring", ((0, 0, "x"),)),
                      ("ring", (("0", 0, -1),)), ("ring", ((0, 0, -1),), ()), ("cases", "0", (SELF, SELF)),
                      ("cases", (0,), (SELF, SELF)), ("cases", 0), ("cases", 0, "ab"), ("cases", 0, 7),
                      (("ring",), ((0, 0, -1),)), (0, 0), ("Ring", ((0, 0, -1),)), ("ring", (((0,), 0, -1),))):
            self.check(2, CLAUSES, paper, False)
        count = 0
        for paper in spoilt_nodes(PAPER, junk):
            self.assertIs(check_paper(2, CLAUSES, paper), plain_accepted(CLAUSES, paper), paper)
            count += 1
        self.assertGreater(count, 200)

    def test_random(self):
        dice = random.Random(51)
        told = {True: 0, False: 0}
        for _ in range(150):
            n = dice.randint(1, 4)
            clauses = some_clauses(dice, n, dice.randint(2, 9), 3)
            word, paper = solve(n, clauses)
            if word == "paper":
                paper = padded(dice, clauses, paper)
                self.assertIs(check_paper(n, clauses, paper), True)
                for other in list(spoilt_nodes(paper, (0, 1, -2)))[:150]:
                    answer = plain_accepted(clauses, other)
                    self.assertIs(check_paper(n, clauses, other), answer)
                    told[answer] += 1
        self.assertGreater(min(told.values()), 100)

    def test_never_for_what_has_a_solution(self):
        dice = random.Random(52)
        for _ in range(100):
            n = dice.randint(2, 5)
            clauses = some_clauses(dice, n, 8, 3)
            other = planted_clauses(dice, n, 8, 3)
            word, paper = solve(n, clauses)
            if word == "paper":
                self.assertIs(check_paper(n, other, paper), False)

    def test_deep(self):
        clauses = [((0, 0, -1),), ((1, 0, 1), (1, 0, 2)), ()]
        self.check(2, clauses, deep_paper(8000), True)
        self.check(2, clauses, deep_paper(8001), False)
        self.check(2, clauses, deep_paper(100000), False)
        for depth, told in ((7999, True), (8000, False)):
            paper = ("cases", 2, ())
            for _ in range(depth):
                paper = ("cases", 1, (paper, SELF))
            self.check(2, clauses, paper, told)
        paper = ()
        for _ in range(100000):
            paper = (paper, "ring", 5)
        self.check(2, clauses, paper, False)
        self.check(2, clauses, ("ring", paper), False)
        self.check(2, clauses, ("ring", (paper,)), False)
        self.check(2, clauses, ("ring", ((paper, 0, 0),)), False)
        self.check(2, clauses, ("cases", paper, ()), False)
        self.check(2, clauses, ("cases", 1, (SELF, paper)), False)
        self.check(2, clauses, (paper, 0, 0), False)

    def test_large_numbers(self):
        clauses = [((1, 0, BIG),), ((0, 1, -BIG - 1), (0, 1, -2 * BIG))]
        rings = [("ring", ((1, 0, BIG), literal)) for literal in clauses[1]]
        self.check(2, clauses, ("cases", 1, tuple(rings)), True)
        self.check(2, clauses, ("cases", BIG, tuple(rings)), False)
        self.check(2, clauses, ("cases", 1, (rings[1], rings[0])), False)


class Measures(unittest.TestCase):
    def test_told(self):
        empty = ("cases", 7, ())
        for paper, depth, count in ((RING, 0, 1), (("ring", ()), 0, 1), (empty, 1, 1), (PAPER, 1, 3),
                                    (("cases", 0, (PAPER, RING)), 2, 5), (("cases", 0, (RING, PAPER)), 2, 5),
                                    (("cases", 0, (empty, PAPER, empty)), 2, 6), (("cases", -5, (empty,)), 2, 2)):
            self.assertEqual((depth_of(paper), weight(paper)), (depth, count))

    def test_rings(self):
        one, two, three = (("ring", ((0, 0, k),)) for k in (5, 6, 7))
        for paper, told in ((one, [5]), (("cases", 0, ()), []), (("cases", 0, (one, two, three)), [5, 6, 7]),
                            (("cases", 0, (("cases", 1, (two, one)), three)), [6, 5, 7]),
                            (("cases", 0, (three, ("cases", 1, (two, ("cases", 2, ()), one)))), [7, 6, 5])):
            self.assertEqual(rings_of(paper), [((0, 0, k),) for k in told])

    def test_deep(self):
        for depth in (8000, 8001, 50000):
            paper = deep_paper(depth)
            self.assertEqual((depth_of(paper), weight(paper), len(rings_of(paper))),
                             (depth, 2 * depth + 1, depth + 1))


class Used(unittest.TestCase):
    def test_told(self):
        self.assertEqual(used_clauses(2, CLAUSES, PAPER), [0, 1])
        self.assertEqual(used_clauses(2, CLAUSES, ("cases", 2, (PAPER,))), [0, 1, 2])
        self.assertEqual(used_clauses(1, [(), ()], ("cases", 1, ())), [1])
        clauses = [((1, 0, 9),), ((0, 0, -1),), ((1, 0, 9),), ((0, 0, -1),), ((0, 0, -1), (0, 0, -1))]
        self.assertEqual(used_clauses(2, clauses, SELF), [1])
        self.assertEqual(used_clauses(2, clauses, ("cases", 3, (SELF,))), [3])
        self.assertEqual(used_clauses(2, clauses, ("cases", 4, (SELF, SELF))), [4])
        self.assertEqual(used_clauses(2, clauses, ("cases", 2, (SELF,))), [1, 2])

    def test_random(self):
        dice = random.Random(53)
        count = 0
        for _ in range(300):
            n = dice.randint(1, 4)
            clauses = some_clauses(dice, n, dice.randint(2, 14), 2)
            word, paper = solve(n, clauses)
            if word == "paper":
                paper = padded(dice, clauses, paper)
                used = used_clauses(n, clauses, paper)
                self.assertEqual(used, sorted(plain_used(clauses, paper)))
                self.assertFalse(has_solution(n, [clauses[k] for k in used]) if n < 4 else False)
                count += 1
        self.assertGreater(count, 60)

    def test_deep(self):
        clauses = [((0, 0, -1),), ((1, 0, 1), (1, 0, 2))]
        self.assertEqual(used_clauses(2, clauses, deep_paper(8000)), [0, 1])


class Trimmed(unittest.TestCase):
    def check(self, n, clauses, paper, told):
        self.assertEqual(trimmed(n, clauses, paper), told)

    def test_told(self):
        self.check(2, CLAUSES, PAPER, PAPER)
        self.check(2, CLAUSES, ("cases", 2, (PAPER,)), PAPER)
        self.check(2, CLAUSES, ("cases", 1, (PAPER,)), PAPER)
        self.check(2, CLAUSES, ("cases", 0, (PAPER, PAPER)), PAPER)
        clauses = [*CLAUSES, ((0, 0, -1),), ((1, 0, 1), (0, 0, -1)), ()]
        self.check(2, clauses, ("cases", 0, (RING, SELF)), SELF)
        self.check(2, clauses, ("cases", 0, (SELF, PAPER)), SELF)
        self.check(2, clauses, ("cases", 4, (PAPER, SELF)), PAPER)
        self.check(2, clauses, ("cases", 4, (("cases", 4, (PAPER, PAPER)), SELF)), PAPER)
        self.check(2, clauses, ("cases", 5, ()), ("cases", 5, ()))
        self.check(2, clauses, ("cases", 4, (("cases", 5, ()), SELF)), ("cases", 5, ()))
        inner = ("cases", 0, (RING, ("cases", 4, (PAPER[2][1], SELF))))
        self.check(2, clauses, inner, PAPER)

    def test_equal_literals(self):
        clauses = [((1, 0, -1), (1, 0, -1)), ((0, 1, 0),), ((1, 0, 3), (1, 0, -1))]
        paper = ("cases", 0, (RING, RING))
        self.check(2, clauses, paper, paper)
        other = ("cases", 2, (paper, RING))
        self.check(2, clauses, other, paper)
        self.check(2, [*clauses, ((1, 0, -1),)], paper, RING)
        self.check(2, clauses, ("cases", 0, (paper, RING)), paper)

    def test_random(self):
        dice = random.Random(54)
        count = shorter = 0
        for _ in range(400):
            n = dice.randint(1, 5)
            clauses = some_clauses(dice, n, dice.randint(2, 14), 3)
            word, paper = solve(n, clauses)
            if word == "paper":
                paper = padded(dice, clauses, paper, 4)
                short = trimmed(n, clauses, paper)
                self.assertEqual(short, plain_trimmed(clauses, paper)[0])
                self.assertIs(check_paper(n, clauses, short), True)
                self.assertLessEqual(weight(short), weight(paper))
                self.assertEqual(trimmed(n, clauses, short), short)
                count += 1
                shorter += short != paper
        self.assertGreater(min(count, shorter), 80)

    def test_deep(self):
        clauses = [((0, 0, -1),), ((1, 0, 1), (1, 0, 2))]
        self.check(2, clauses, deep_paper(8000), SELF)
        clauses = staircase(2000)
        paper = solve(2, clauses)[1]
        self.assertEqual(depth_of(paper), 1998)
        self.assertEqual(weight(trimmed(2, clauses, paper)), weight(paper))
        self.assertEqual(used_clauses(2, clauses, paper), list(range(2000)))

    def test_jobs(self):
        n, clauses = jobs((3, 1, 2, 2, 1), 8)
        paper = solve(n, clauses)[1]
        self.assertIs(check_paper(n, clauses, trimmed(n, clauses, paper)), True)
        self.assertTrue(satisfied(((1, 0, 0),), (0, 0)))
