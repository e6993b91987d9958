"""[6.3] to [6.5], and the section diesnon/decide.py of the interface."""

import random
import unittest

from diesnon.clauses import all_clauses, clauses
from diesnon.decide import check, decide, decide_all, keeping, mirror, verdict
from diesnon.errors import Never, TooLarge
from diesnon.meaning import answers, holds, keeps
from diesnon.papers import check_paper
from diesnon.points import points
from diesnon.worlds import is_world, keeps_rules, make_world
from tests.allworlds import BOUNDED, bounded_worlds, near_condition
from tests.pictures import (
    chain_of_days, conditions_for, many_clauses, many_terms, names_in, nodes_of, small_question, some_world_for,
)
from tests.samples import spoilt_nodes

X, Y, Z = ("day", "x"), ("day", "y"), ("day", "z")
YES, NO = ("yes",), ("not", ("yes",))


def both_ways(t, u):
    return ("and", ("le", t, u), ("le", u, t))


def follows(c, d):
    return ("or", ("not", c), d)


class Case(unittest.TestCase):
    def check_decided(self, question):
        """Decides the question and checks what is told; returns its word."""
        answer = decide(question)
        self.assertIsInstance(answer, tuple)
        word, told = answer
        if word == "world":
            self.assertIs(is_world(told), True)
            self.assertIs(answers(told, question), True)
            names = names_in(question[0], nodes_of(question))
            self.assertEqual(tuple({name for name, _ in part} for part in (told[1], told[0], told[2])), names)
        else:
            self.assertEqual(word, "paper")
            self.assertIs(check(question, told), True)
            self.assertIs(check_paper(len(points(question)), list(clauses(question)), told), True)
        return word


class Decide(Case):
    def test_laws(self):
        a, b = (("a", 0, "", ()),), (("a", 0, "", ()), ("b", 0, "a", ()))
        runs = (("a", 4, "", ()), ("b", 6, "a", ()))
        known = (("a", 2, "", (0, 20, ((5, 6), (12, 13)))),)
        near = (("le", ("at", 0), X), ("le", X, ("at", 10)))

        def nth(name, t, n):
            return ("nth", name, t, n)

        for rules, assumptions, claim, word in (
            (a, (), ("le", X, ("next", "a", X)), "paper"), (a, (), ("le", ("next", "a", X), X), "world"),
            (a, (("is", "a", X),), ("le", ("next", "a", X), X), "paper"),
            (a, (), ("is", "a", nth("a", X, 3)), "paper"), (a, (), ("is", "a", ("plus", nth("a", X, 3), 1)), "world"),
            (a, (), follows(("le", X, Y), ("le", nth("a", X, 5), nth("a", Y, 5))), "paper"),
            (a, (("is", "a", X),), both_ways(nth("a", nth("a", X, 5), -5), X), "paper"),
            (a, (), both_ways(nth("a", nth("a", X, 5), -5), X), "world"),
            (a, (), both_ways(nth("a", ("later", X, Y), 3), ("later", nth("a", X, 3), nth("a", Y, 3))), "paper"),
            (b, (), ("le", nth("a", X, 6), nth("b", X, 6)), "paper"), (b, (), ("le", nth("b", X, 6), nth("a", X, 6)), "world"),
            (b, (), both_ways(("next", "a", ("next", "b", X)), ("next", "b", X)), "paper"),
            (runs, (), ("le", nth("a", X, 6), ("plus", X, 30)), "paper"),
            (runs, (), ("le", nth("a", X, 6), ("plus", X, 29)), "world"),
            (runs, (), ("le", nth("b", X, 2), ("plus", X, 14)), "paper"),
            (runs, (), ("le", nth("b", X, 2), ("plus", X, 13)), "world"),
            (known, near, ("le", nth("a", X, 4), ("plus", X, 6)), "paper"),
            (known, near, ("le", nth("a", X, 4), ("plus", X, 5)), "world"),
            (known, near, ("le", nth("a", X, 5), ("plus", X, 9)), "paper"),
            (known, (), ("is", "a", ("at", 7)), "paper"), (known, (), ("is", "a", ("at", 6)), "world"),
            (known, (), ("not", ("is", "a", ("at", 6))), "paper"), (known, (), ("is", "a", ("at", 21)), "world"),
            ((), (), ("or", ("flag", "f"), ("not", ("flag", "f"))), "paper"), ((), (), ("flag", "f"), "world"),
            ((), (("flag", "f"),), both_ways(("if", ("flag", "f"), X, Y), X), "paper"),
            ((), (), YES, "paper"), ((), (), NO, "world"), ((), (NO,), NO, "paper"),
            ((), (("le", X, Y), ("le", Y, Z)), ("le", X, Z), "paper"),
            ((), (("le", X, Y), ("le", Y, Z)), ("le", Z, X), "world"),
            ((("a", 0, "", (0, 3, ((1, 1),))), ("b", 0, "a", (1, 1, ()))), (), NO, "paper"),
            ((("a", 2, "", (0, 3, ((1, 3),))),), (), NO, "paper"),
            ((("a", 3, "", (0, 3, ((1, 3),))),), (), NO, "world"),
        ):
            question = (rules, assumptions, claim)
            self.assertEqual(self.check_decided(question), word, question)

    def test_random(self):
        dice = random.Random(73)
        words = {"world": 0, "paper": 0, "never": 0, "none": 0, "always": 0, "open": 0}
        tried = 0
        for _ in range(300):
            question = small_question(dice, dice.randint(2, 4))
            try:
                word = self.check_decided(question)
            except TooLarge:
                continue
            told = verdict(question)
            words[word] += 1
            words[told] += 1
            self.assertEqual(word == "world", told in ("never", "open"))
            for _ in range(15):
                world = some_world_for(dice, question[0], nodes_of(question))
                if keeps(world, question):
                    tried += 1
                    self.assertIn(told, ("always", "open") if holds(world, question[2]) else ("never", "open"))
        self.assertGreater(min(words.values()), 5)
        self.assertGreater(tried, 300)

    def test_against_all_worlds(self):
        dice = random.Random(74)
        rules = (("court", 2, "", ()),)
        worlds = bounded_worlds(2)
        told = []
        for _ in range(9):
            question = (rules, BOUNDED + tuple(near_condition(dice) for _ in range(dice.randint(0, 1))), near_condition(dice))
            kept = [world for world in worlds if keeps(world, question)]
            answering = [world for world in kept if not holds(world, question[2])]
            self.assertEqual(self.check_decided(question) == "world", answering != [])
            if answering:
                told.append("never" if len(answering) == len(kept) else "open")
            else:
                told.append("always" if kept else "none")
            self.assertEqual(verdict(question), told[-1])
        self.assertGreater(len(set(told)), 2)

    def test_large_and_deep_nodes(self):
        condition = ("le", X, ("plus", X, 10 ** 30))
        for _ in range(5000):
            condition = ("not", condition)
        self.assertEqual(decide(((), (), condition))[0], "paper")
        self.assertEqual(verdict(((), (), ("not", condition))), "never")
        question = ((("a", 10 ** 9, "", ()),), (), ("le", ("next", "a", X), ("plus", X, 10 ** 9)))
        self.assertEqual(verdict(question), "always")
        self.assertEqual(verdict((question[0], (), ("le", ("next", "a", X), ("plus", X, 10 ** 9 - 1)))), "open")


class Limits(Case):
    def test_points(self):
        question = ((), (), ("le", chain_of_days(80), X))
        self.assertEqual(self.check_decided(question), "world")
        question = ((), (), ("le", chain_of_days(81), X))
        for call in (decide, verdict, keeping, lambda asked: check(asked, ()), lambda asked: decide_all((), (), [asked[2]])):
            with self.assertRaises(TooLarge):
                call(question)

    def test_clauses(self):
        """8000 clauses are allowed, and one more is not."""
        t, u = many_terms()
        claim = ("not", ("le", t, ("plus", u, -1)))
        rules = many_clauses(139)
        for count in (8000, 8001):
            more = count - len(clauses((rules, (), claim)))
            assumptions = conditions_for(rules, t, u, len(all_clauses(rules, (), [t, u])) + more)
            question = (rules, assumptions, claim)
            self.assertEqual(len(clauses(question)), count)
            if count == 8000:
                self.assertEqual(self.check_decided(question), "paper")
                self.assertIs(check(question, decide(question)[1]), True)
                continue
            for call in (decide, verdict, keeping, lambda asked: check(asked, ()),
                         lambda asked: decide_all(asked[0], asked[1], [asked[2]])):
                with self.assertRaises(TooLarge):
                    call(question)


class Check(Case):
    def test_one_thing_changed(self):
        x = ("plus", X, 2)
        question = ((("a", 2, "", (0, 9, ((4, 5),))),), (("le", ("at", 0), X),), ("le", ("next", "a", X), x))
        paper = decide(question)[1]
        self.assertIs(check(question, paper), True)
        tighter = (question[0], question[1], ("le", ("next", "a", X), ("plus", X, 1)))
        self.assertIs(check(tighter, paper), False)
        self.assertEqual(decide(tighter)[0], "world")
        n, rows = len(points(question)), list(clauses(question))
        refused = 0
        for other in spoilt_nodes(paper, (0, 1, -1, 5, "ring", (), ((0, 0, -1),))):
            told = check(question, other)
            self.assertIs(told, check_paper(n, rows, other))
            refused += not told
        self.assertGreater(refused, 50)
        for other in ((), 5, "paper", ("ring", ((0, 0, -1),)), ("ring", ()), ("cases", 0, ()), (paper,)):
            self.assertIs(check(question, other), False)


class Keeping(Case):
    def test_told(self):
        rules = (("a", 2, "", ()),)
        for claim in (("le", X, ("next", "a", X)), ("le", ("next", "a", X), X), NO, YES, ("flag", "f"),
                      ("is", "b", ("day", "q"))):
            question = (rules, (("not", ("is", "a", Y)), ("flag", "g")), claim)
            world = keeping(question)
            self.assertIs(keeps(world, question), True)
            names = names_in(rules, nodes_of(question))
            self.assertEqual(tuple({name for name, _ in part} for part in (world[1], world[0], world[2])), names)
        for question in ((rules, (NO,), YES), (rules, (("le", ("plus", X, 1), X),), ("le", X, Y)),
                         ((("a", 0, "", (0, 0, ((0, 0),))), ("b", 0, "a", (0, 0, ()))), (), YES)):
            with self.assertRaises(Never):
                keeping(question)
            self.assertEqual(verdict(question), "none")

    def test_random(self):
        dice = random.Random(75)
        for _ in range(120):
            question = small_question(dice)
            try:
                told = verdict(question)
            except TooLarge:
                continue
            if told == "none":
                with self.assertRaises(Never):
                    keeping(question)
            else:
                self.assertIs(keeps(keeping(question), question), True)


class Verdicts(Case):
    def test_told(self):
        rules = (("a", 2, "", ()),)
        for assumptions, claim, told in (
            ((), ("le", X, ("next", "a", X)), "always"), ((), ("le", ("next", "a", X), ("plus", X, 1)), "open"),
            ((), ("le", ("plus", ("next", "a", X), 1), X), "never"), ((NO,), YES, "none"), ((NO,), NO, "none"),
            ((), YES, "always"), ((), NO, "never"), ((("not", ("is", "a", X)),), ("is", "a", X), "never"),
            ((("not", ("is", "a", X)), ("not", ("is", "a", ("plus", X, 1)))), ("is", "a", ("plus", X, 2)), "always"),
            (tuple(("not", ("is", "a", ("plus", X, k))) for k in range(3)), YES, "none"),
        ):
            self.assertEqual(verdict((rules, assumptions, claim)), told)

    def test_decide_all(self):
        rules, assumptions = (("a", 2, "", ()),), (("le", X, Y),)
        claims = [("le", X, ("plus", Y, 1)), ("le", Y, X), ("le", ("next", "a", X), ("plus", Y, 2)), YES]
        told = decide_all(rules, assumptions, claims)
        self.assertIsInstance(told, list)
        self.assertEqual([word for word, _ in told], ["paper", "world", "paper", "paper"])
        for claim, (word, what) in zip(claims, told):
            question = (rules, assumptions, claim)
            self.assertIs(check(question, what) if word == "paper" else answers(what, question), True)
        self.assertEqual(decide_all(rules, assumptions, []), [])
        self.assertEqual(len(decide_all(rules, assumptions, tuple(claims))), 4)


def mirror_world(world):
    calendars, days, flags = world
    turned = {name: tuple((-b, -a) for a, b in closed[::-1]) for name, closed in calendars}
    return make_world(turned, {name: -day for name, day in days}, dict(flags))


class Mirror(Case):
    def test_told(self):
        rules = (("a", 3, "", (-2, 9, ((-1, 0), (4, 4)))), ("b", 0, "a", ()))
        told = (("a", 3, "", (-9, 2, ((-4, -4), (0, 1)))), ("b", 0, "a", ()))
        for condition, turned in (
            (YES, YES), (("flag", "f"), ("flag", "f")), (("le", X, Y), ("le", Y, X)),
            (("le", ("at", 3), ("at", 0)), ("le", ("at", 0), ("at", -3))), (("is", "a", X), ("is", "a", X)),
            (("is", "a", ("at", 5)), ("is", "a", ("at", -5))),
            (("le", ("plus", X, 3), ("next", "a", X)), ("le", ("prev", "a", X), ("plus", X, -3))),
            (("le", ("prev", "a", ("at", 1)), Y), ("le", Y, ("next", "a", ("at", -1)))),
            (("le", ("nth", "a", X, 2), Y), ("le", Y, ("nth", "a", X, -2))),
            (("le", ("later", X, ("at", 1)), Y), ("le", Y, ("earlier", X, ("at", -1)))),
            (("le", ("earlier", X, Y), Y), ("le", Y, ("later", X, Y))),
            (("le", ("if", ("le", X, Y), ("at", 1), Y), X), ("le", X, ("if", ("le", Y, X), ("at", -1), Y))),
            (("not", ("le", X, Y)), ("not", ("le", Y, X))),
            (("and", ("le", X, Y), ("flag", "f")), ("and", ("le", Y, X), ("flag", "f"))),
            (("or", ("is", "a", ("at", 1)), ("le", X, Y)), ("or", ("is", "a", ("at", -1)), ("le", Y, X))),
        ):
            self.assertEqual(mirror((rules, (condition, YES), condition)), (told, (turned, YES), turned))
            self.assertEqual(mirror((told, (turned,), YES)), (rules, (condition,), YES))

    def test_same_verdict(self):
        dice = random.Random(76)
        for _ in range(150):
            question = small_question(dice)
            other = mirror(question)
            self.assertEqual(mirror(other), question)
            world = some_world_for(dice, question[0], nodes_of(question))
            self.assertIs(keeps_rules(mirror_world(world), other[0]), keeps_rules(world, question[0]))
            for first, second in zip(nodes_of(question), nodes_of(other)):
                self.assertIs(holds(mirror_world(world), second), holds(world, first))
            try:
                told = verdict(question)
            except TooLarge:
                continue
            self.assertEqual(verdict(other), told)

    def test_deep(self):
        condition = ("le", X, Y)
        for _ in range(3001):
            condition = ("not", condition)
        turned = mirror(((), (condition,), YES))[1][0]
        while turned[0] == "not":
            turned = turned[1]
        self.assertEqual(turned, ("le", Y, X))
