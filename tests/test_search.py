"""[5.1], [5.3], [5.4], and the section diesnon/search.py of the interface."""

import random
import unittest

from diesnon.errors import NotAllowed
from diesnon.hunt import Hunt
from diesnon.learner import Learner
from diesnon.papers import check_paper, depth_of, used_clauses, weight
from diesnon.problem import Problem
from diesnon.search import solve, solves, without_repeats
from diesnon.walk import Walk
from tests.problems import (
    deep_paper, has_solution, jobs, planted_clauses, ring_clauses, satisfied, some_clauses, staircase,
)

BIG = 10 ** 60


class Case(unittest.TestCase):
    def check(self, n, clauses):
        """Solves the problem and checks what is told; returns its word."""
        kept = list(clauses)
        answer = solve(n, clauses)
        self.assertIsInstance(answer, tuple)
        word, told = answer
        self.assertEqual(clauses, kept)
        if word == "values":
            self.assertIsInstance(told, tuple)
            self.assertEqual((len(told), told[0]), (n, 0))
            self.assertTrue(all(satisfied(clause, told) for clause in clauses))
            self.assertIs(solves(n, clauses, told), True)
        else:
            self.assertEqual(word, "paper")
            self.assertIs(check_paper(n, clauses, told), True)
        return word


class Solves(Case):
    def test_told(self):
        clauses = [((1, 0, -3), (0, 1, -3)), ((1, 0, 5),)]
        for values, told in (((0, 5), True), ((0, 3), True), ((0, 2), False), ((0, 6), False), ((0, -3), True),
                             ((7, 12), True), ((7, 3), True), ((7, 5), False)):
            self.assertIs(solves(2, clauses, values), told)
        self.assertIs(solves(1, [], (0,)), True)
        self.assertIs(solves(1, [()], (0,)), False)
        self.assertIs(solves(2, [((1, 0, BIG),), ((0, 1, -BIG),)], (1, BIG + 1)), True)
        for n, clauses in ((0, []), (81, []), (2, [((2, 0, 0),)]), (1, [()] * 8001)):
            with self.assertRaises(NotAllowed):
                solves(n, clauses, (0, 0))
            with self.assertRaises(NotAllowed):
                solve(n, clauses)


class Small(Case):
    def test_told(self):
        for n, clauses, word in (
            (1, [], "values"), (80, [], "values"), (1, [()], "paper"), (3, [((1, 0, 1),), ()], "paper"),
            (1, [((0, 0, 0),)], "values"), (1, [((0, 0, -1),)], "paper"), (2, [((1, 1, -1), (0, 0, -7))], "paper"),
            (2, [((1, 1, -1), (0, 0, 0))], "values"), (2, [((1, 0, -1), (0, 1, -1))], "values"),
            (2, [((1, 0, -1), (0, 1, -1)), ((1, 0, 0),), ((0, 1, 0),)], "paper"),
            (2, [((1, 0, 3),), ((0, 1, -3),)], "values"), (2, [((1, 0, 3),), ((0, 1, -4),)], "paper"),
            (2, [((1, 0, 3),), ((0, 1, -3),), ((1, 0, 4),), ((0, 1, -4),)], "paper"),
            (2, [((1, 0, -4), (1, 0, -4)), ((0, 1, 3), (0, 1, 3))], "paper"),
            (3, [((1, 0, -BIG),), ((2, 1, -BIG), (2, 1, -BIG - 1)), ((0, 2, 2 * BIG - 1),)], "paper"),
            (3, [((1, 0, -BIG),), ((2, 1, -BIG), (2, 1, -BIG - 1)), ((0, 2, 2 * BIG),)], "values"),
        ):
            self.assertEqual(self.check(n, clauses), word, clauses)

    def test_against_all_values(self):
        dice = random.Random(61)
        words = {"values": 0, "paper": 0}
        for _ in range(700):
            n = dice.randint(1, 4)
            width = dice.randint(0, 3 if n < 4 else 1)
            clauses = some_clauses(dice, n, dice.randint(0, 14), width, (1, 2, 2, 3, 3) if n > 2 else (1, 1, 2, 3))
            if dice.random() < 0.02:
                clauses.append(())
            word = self.check(n, clauses)
            self.assertIs(word == "values", has_solution(n, clauses), clauses)
            words[word] += 1
        self.assertGreater(min(words.values()), 150)

    def test_hunt_and_learner(self):
        """Two of the searches behind `solve` tell the same, each for itself and in small steps."""
        dice = random.Random(62)
        words = {"values": 0, "paper": 0}
        for _ in range(400):
            n = dice.randint(2, 7)
            clauses = some_clauses(dice, n, dice.randint(8, 40), 4, (1, 2, 3, 3))
            problem = Problem(n, clauses)
            learner, hunt = Learner(problem), Hunt(problem)
            values = told = None
            while values is None and not learner.hopeless:
                values = learner.run(dice.choice((1, 50, 5000)))
            while told is None:
                told = hunt.run(dice.choice((1, 50, 5000)))
            self.assertEqual(told[0], "paper" if values is None else "values")
            words[told[0]] += 1
            if values is None:
                self.assertIs(check_paper(n, clauses, told[1]), True)
            else:
                self.assertIs(solves(n, clauses, values) and solves(n, clauses, told[1]), True)
        self.assertGreater(min(words.values()), 100)


    def test_learner_begins_anew(self):
        """The search that learns, for itself, on problems with so many dead ends that it begins anew."""
        for seed in range(4):
            clauses = planted_clauses(random.Random(seed), 20, 300, 20, (3,), 5)
            learner = Learner(Problem(20, clauses))
            values = learner.run(10 ** 9)
            self.assertIs(solves(20, clauses, values), True)
        for lengths, end in (((2, 1, 3, 1, 1, 2), 9), ((2, 1, 3, 1, 1, 2), 10), ((5, 1, 2, 2, 4), 13)):
            n, clauses = jobs(lengths, end)
            learner = Learner(Problem(n, clauses))
            values = learner.run(10 ** 9)
            self.assertIs(learner.hopeless, end < sum(lengths))
            self.assertIs(values is None, end < sum(lengths))

    def test_walk(self):
        """The search that only finds values, for itself and in turns."""
        dice = random.Random(68)
        found = 0
        for _ in range(100):
            n = dice.randint(1, 6)
            clauses = some_clauses(dice, n, dice.randint(0, 20), 4, (1, 2, 3, 3))
            problem = Problem(n, clauses)
            walk = Walk(problem, [dice.randint(-5, 5) for _ in range(problem.many)])
            values = walk.run(20000)
            if solve(n, clauses)[0] == "paper":
                self.assertIsNone(values)
            elif values is not None:
                found += 1
                self.assertIs(solves(n, clauses, values), True)
        self.assertGreater(found, 40)
        for n, count, length in ((20, 300, 3), (40, 300, 2), (60, 500, 2), (40, 600, 3)):
            clauses = planted_clauses(random.Random(69), n, count, 20, (length,), 5)
            walk, values = Walk(Problem(n, clauses), [0] * n), None
            while values is None:
                values = walk.run(dice.choice((1, 100, 10000)))
            self.assertIs(solves(n, clauses, values), True)
        for clauses in ([()], [((0, 0, -1), (1, 1, -5))], [((1, 0, -1),), ((0, 1, -1),)]):
            self.assertIsNone(Walk(Problem(2, clauses), [0, 0]).run(500))


class Large(Case):
    def test_planted(self):
        dice = random.Random(63)
        for n, count, lengths in ((12, 100, (1, 2, 3)), (30, 200, (1, 2, 3)), (40, 300, (1, 2, 3)), (60, 900, (1, 2, 3)),
                                  (24, 200, (2, 3)), (25, 300, (3,)), (40, 300, (2,)), (30, 400, (3, 4)),
                                  (80, 500, (2, 3)), (80, 8000, (1, 1, 2))):
            for width in (8, 40, BIG):
                clauses = planted_clauses(dice, n, count, width, lengths, dice.choice((0, 5)))
                self.assertEqual(self.check(n, clauses), "values")

    def test_cases_that_do_not_matter(self):
        dice = random.Random(64)
        for _ in range(6):
            points = list(range(60))
            dice.shuffle(points)
            clauses = ring_clauses(dice, points[:8], points[8:])
            self.assertGreater(len(clauses), 500)
            self.assertEqual(self.check(60, clauses), "paper")
            paper = solve(60, clauses)[1]
            self.assertLess(weight(paper), 2000)
            for k in used_clauses(60, clauses, paper):
                self.assertTrue({a for a, _, _ in clauses[k]} <= set(points[:8]))

    def test_jobs(self):
        for lengths in ((1, 1, 1, 1), (3, 1, 2, 2, 1), (5, 4, 3, 2, 1, 1)):
            for end, word in ((sum(lengths), "values"), (sum(lengths) - 1, "paper")):
                n, clauses = jobs(lengths, end)
                self.assertEqual(self.check(n, clauses), word)
                more = planted_clauses(random.Random(65), 20, 150, 20, (2, 3))
                moved = [tuple((a + n, b + n, c) for a, b, c in clause) for clause in more]
                self.assertEqual(self.check(n + 20, moved + clauses), word)

    def test_hard_ones(self):
        """Problems with many dead ends, so that `solve` searches in all its ways."""
        dice = random.Random(66)
        words = [self.check(20, some_clauses(dice, 20, 300, 20, (3,)) + planted_clauses(dice, 20, 6, 20, (1,)))
                 for _ in range(6)]
        for n, count, length in ((20, 300, 3), (40, 300, 2), (50, 500, 3), (60, 500, 2), (40, 600, 3), (30, 800, 4)):
            clauses = planted_clauses(random.Random(n), n, count, 20, (length,), 5)
            self.assertEqual(self.check(n, clauses), "values")
        self.assertEqual(set(words) - {"paper", "values"}, set())
        n, clauses = jobs((2, 1, 3, 1, 1, 2, 1), 10)
        self.assertEqual(self.check(n, clauses), "paper")

    def test_ties(self):
        chain = [clause for k in range(1, 80) for clause in (((k, k - 1, 3),), ((k - 1, k, -3),))]
        self.assertEqual(solve(80, chain)[1], tuple(range(0, 240, 3)))
        self.assertEqual(self.check(80, [*chain, ((79, 0, 237),)]), "values")
        self.assertEqual(self.check(80, [*chain, ((79, 0, 236),)]), "paper")
        self.assertEqual(self.check(80, [*chain, ((79, 0, 236), (0, 79, -238), (40, 40, -1))]), "paper")
        self.assertEqual(self.check(80, [((0, 79, -238), (79, 0, 236)), *chain[::-1]]), "paper")

    def test_deep(self):
        clauses = staircase(8000)
        for _ in range(2):
            word, paper = solve(2, clauses)
            self.assertEqual((word, depth_of(paper)), ("paper", 7998))
            self.assertIs(check_paper(2, clauses, paper), True)
            random.Random(67).shuffle(clauses)
        self.assertEqual(self.check(2, clauses[1:]), "values")


class Repeats(Case):
    def test_without_repeats(self):
        ring, other = ("ring", ((0, 0, -1),)), ("ring", ((1, 1, -1),))
        empty = ("cases", 9, ())
        inner = ("cases", 1, (other, ring))
        for paper, told in (
            (ring, ring), (empty, empty), (inner, inner),
            (("cases", 1, (inner, other)), ("cases", 1, (other, other))),
            (("cases", 1, (ring, inner)), ("cases", 1, (ring, ring))),
            (("cases", 1, (ring, ("cases", 2, (inner, empty, inner)))),
             ("cases", 1, (ring, ("cases", 2, (ring, empty, ring))))),
            (("cases", 2, (inner, inner, empty)), ("cases", 2, (inner, inner, empty))),
        ):
            self.assertEqual(without_repeats(paper), told)
        self.assertEqual(without_repeats(deep_paper(20000)), ("cases", 1, (ring, ring)))
