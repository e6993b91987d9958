"""[7.5] to [7.8], and the section diesnon/families.py of the interface."""

import random
import unittest

from diesnon.clauses import all_clauses
from diesnon.decide import decide, verdict
from diesnon.errors import Missing, Never, NotAllowed, TooLarge
from diesnon.extremes import span
from diesnon.families import critical_run, farther, orders, tolerance, with_run
from diesnon.meaning import answers, keeps, value
from tests.pictures import (
    chain_of_days, conditions_for, many_clauses, many_terms, names_in, small_question, small_term,
)

X, Y, Z = ("day", "x"), ("day", "y"), ("day", "z")
YES, NO = ("yes",), ("not", ("yes",))
BIG = 10 ** 30


def some_terms(dice):
    return small_term(dice, dice.randint(1, 3)), small_term(dice, dice.randint(1, 3))


class Case(unittest.TestCase):
    def names_fit(self, world, rules, nodes):
        told = tuple({name for name, _ in part} for part in (world[1], world[0], world[2]))
        self.assertEqual(told, names_in(rules, nodes))


class Farther(Case):
    def check(self, rules, assumptions, t, u, n):
        world = farther(rules, assumptions, t, u, n)
        self.assertGreaterEqual(value(world, t) - value(world, u), n)
        self.assertIs(keeps(world, (rules, assumptions, YES)), True)
        self.names_fit(world, rules, [*assumptions, t, u])

    def test_told(self):
        rules = (("a", 2, "", ()),)
        for n in (-BIG, -1, 0, 1, 2):
            self.check(rules, (), ("next", "a", X), X, n)
        for n in (3, 4, BIG):
            with self.assertRaises(Never):
                farther(rules, (), ("next", "a", X), X, n)
        for n in (-BIG, 0, 7, 10 ** 6, BIG, BIG ** 3):
            self.check(rules, (), X, Y, n)
            self.check((), (("is", "b", X),), ("next", "c", X), X, n)
        with self.assertRaises(Never):
            farther(rules, (NO,), X, Y, -BIG)
        with self.assertRaises(Never):
            farther((), (), X, X, 1)
        self.check((), (), X, X, 0)

    def test_random(self):
        dice = random.Random(91)
        ends = 0
        for _ in range(80):
            rules, assumptions, _ = small_question(dice, 2)
            t, u = some_terms(dice)
            try:
                _, high = span(rules, assumptions, t, u)
            except (TooLarge, Never):
                continue
            self.check(rules, assumptions, t, u, BIG if high is None else high)
            self.check(rules, assumptions, t, u, -BIG if high is None else high - 3)
            if high is not None:
                ends += 1
                with self.assertRaises(Never):
                    farther(rules, assumptions, t, u, high + 1)
        self.assertGreater(ends, 10)


class Orders(Case):
    def test_told(self):
        rules = (("a", 2, "", ()),)
        for assumptions, t, u, told in (
            ((), X, Y, ("before", "same", "behind")), ((("le", X, Y),), X, Y, ("before", "same")),
            ((("le", Y, X),), X, Y, ("same", "behind")), ((("le", X, Y), ("le", Y, X)), X, Y, ("same",)),
            ((("not", ("le", X, Y)),), X, Y, ("behind",)), ((("not", ("le", Y, X)),), X, Y, ("before",)),
            ((("or", ("not", ("le", X, Y)), ("not", ("le", Y, X))),), X, Y, ("before", "behind")), ((NO,), X, Y, ()),
            ((), X, X, ("same",)), ((), ("next", "a", X), X, ("same", "behind")),
            ((("is", "a", X),), ("next", "a", X), X, ("same",)), ((), ("prev", "a", X), X, ("before", "same")),
        ):
            self.assertEqual(orders(rules, assumptions, t, u), told)

    def test_random(self):
        dice = random.Random(92)
        found = set()
        for _ in range(150):
            rules, assumptions, _ = small_question(dice, 2)
            t, u = some_terms(dice)
            try:
                told = orders(rules, assumptions, t, u)
            except TooLarge:
                continue
            found.add(told)
            asked = {"before": ("le", u, t), "same": ("not", ("and", ("le", t, u), ("le", u, t))), "behind": ("le", t, u)}
            self.assertEqual(told, tuple(word for word, claim in asked.items()
                                         if decide((rules, assumptions, claim))[0] == "world"))
        self.assertGreater(len(found), 5)


class Tolerance(Case):
    def loosened(self, rules, assumptions, k, claim, n):
        word, a, b = assumptions[k]
        return (rules, assumptions[:k] + ((word, a, ("plus", b, n)),) + assumptions[k + 1:], claim)

    def check(self, rules, assumptions, k, claim):
        """Checks what is told of an assumption; returns the word and the number."""
        told = tolerance(rules, assumptions, k, claim)
        if told[0] == "most":
            _, n, world = told
            self.assertEqual(verdict(self.loosened(rules, assumptions, k, claim, n)) in ("always", "none"), True)
            self.assertEqual(decide(self.loosened(rules, assumptions, k, claim, n + 1))[0], "world")
            others = assumptions[:k] + assumptions[k + 1:]
            self.assertIs(answers(world, (rules, others, claim)), True)
            self.assertEqual(value(world, assumptions[k][1]) - value(world, assumptions[k][2]), n + 1)
            return told[:2]
        self.assertIn(told, (("spare",), ("none",)))
        for n in (-BIG, 0, BIG):
            word = "paper" if told == ("spare",) else "world"
            self.assertEqual(decide(self.loosened(rules, assumptions, k, claim, n))[0], word)
        return told

    def test_told(self):
        rules = (("court", 3, "", ()),)
        first = ("le", X, Y)
        for assumptions, k, claim, told in (
            ((first,), 0, ("le", ("next", "court", X), ("plus", Y, 10)), ("most", 7)),
            ((first,), 0, ("le", X, Y), ("most", 0)), ((first,), 0, ("le", X, ("plus", Y, BIG)), ("most", BIG)),
            ((first,), 0, ("le", X, ("plus", Y, -5)), ("most", -5)), ((first,), 0, ("le", X, ("next", "court", X)), ("spare",)),
            ((first,), 0, ("le", Y, X), ("none",)), ((first,), 0, NO, ("none",)), ((first, NO), 0, Z, ("spare",)),
            ((first, ("le", Y, Z)), 0, ("le", X, Z), ("most", 0)), ((first, ("le", Y, Z)), 1, ("le", X, ("plus", Z, 4)), ("most", 4)),
            ((first, first), 0, ("le", X, Y), ("spare",)), ((YES, first), 1, ("le", X, Y), ("most", 0)),
            ((first,), 0, ("flag", "f"), ("none",)), ((("le", X, ("at", 5)),), 0, ("le", X, ("at", 8)), ("most", 3)),
        ):
            claim = YES if claim == Z else claim
            self.assertEqual(self.check(rules, assumptions, k, claim), told, claim)

    def test_refused(self):
        assumptions = (("le", X, Y), ("not", ("le", X, Y)), ("flag", "f"), YES, ("and", YES, ("le", X, Y)))
        for k in (-1, -5, -BIG, 5, 6, BIG, 1, 2, 3, 4):
            with self.assertRaises(NotAllowed):
                tolerance((), assumptions, k, YES)
        with self.assertRaises(NotAllowed):
            tolerance((), (), 0, YES)
        far = ("le", X, chain_of_days(81))
        with self.assertRaises(NotAllowed):
            tolerance((), (far, YES), 1, YES)
        for assumptions, claim in (((far,), YES), ((("le", X, Y), far), YES), ((("le", X, Y),), far)):
            with self.assertRaises(TooLarge):
                tolerance((), assumptions, 0, claim)

    def test_random(self):
        dice = random.Random(93)
        told = {"most": 0, "spare": 0, "none": 0}
        for _ in range(200):
            rules, assumptions, claim = small_question(dice, 2)
            for k, condition in enumerate(assumptions):
                if condition[0] == "le":
                    try:
                        told[self.check(rules, assumptions, k, claim)[0]] += 1
                    except TooLarge:
                        continue
        self.assertGreater(min(told.values()), 20)


class Runs(Case):
    def check(self, question, name):
        told = critical_run(question, name)
        if told == ("always",):
            for run in (0, 1, 2, 50, BIG):
                self.assertEqual(decide(with_run(question, name, run))[0], "paper")
            return None
        word, run, world = told
        self.assertEqual(word, "from")
        self.assertGreaterEqual(run, 1)
        self.assertIs(answers(world, with_run(question, name, run)), True)
        self.names_fit(world, question[0], [*question[1], question[2]])
        for less in {1, run // 2, run - 1} - {0, run}:
            self.assertEqual(decide(with_run(question, name, less))[0], "paper")
        return run

    def test_with_run(self):
        rules = (("a", 2, "", (0, 1, ())), ("b", 0, "a", ()))
        for name, run, told in (("a", 0, (("a", 0, "", (0, 1, ())), rules[1])), ("b", BIG, (rules[0], ("b", BIG, "a", ()))),
                                ("a", 2, rules)):
            self.assertEqual(with_run((rules, (YES,), NO), name, run), (told, (YES,), NO))
        for name in ("c", "x", ""):
            with self.assertRaises(Missing) as caught:
                with_run((rules, (), ("is", "c", X)), name, 1)
            self.assertEqual(caught.exception.name, name)
            with self.assertRaises(Missing) as caught:
                critical_run((rules, (), ("le", chain_of_days(81), X)), name)
            self.assertEqual(caught.exception.name, name)

    def test_told(self):
        rules = (("a", 2, "", ()), ("b", 7, "a", ()))
        step = ("next", "a", X)
        for rule, claim, told in (
            ("a", ("le", step, ("plus", X, 4)), 5), ("a", ("le", step, X), 1), ("a", ("le", X, step), None), ("a", NO, 1),
            ("a", ("le", step, ("plus", X, -1)), 1), ("a", ("le", step, ("plus", X, 7)), None),
            ("a", ("le", ("nth", "a", X, 3), ("plus", X, 10)), 3), ("a", ("le", ("nth", "a", X, 3), ("plus", X, 20)), 6),
            ("b", ("le", ("next", "b", X), ("plus", X, 9)), 10), ("b", ("le", step, ("plus", X, 2)), None),
            ("a", ("le", ("next", "b", X), ("plus", X, 7)), None), ("b", ("is", "b", X), 1),
            ("b", ("or", ("is", "a", X), ("is", "a", ("plus", X, 1))), 2),
        ):
            self.assertEqual(self.check((rules, (), claim), rule), told, claim)
        alone = (("a", 2, "", ()),)
        near, far = ("le", step, ("plus", X, 50)), ("le", ("nth", "a", Y, 3), ("plus", Y, BIG))
        for claim in (("and", near, far), ("and", far, near)):
            self.assertEqual(self.check((alone, (), claim), "a"), 51)
        near = ("le", ("nth", "a", X, 3), ("plus", X, 100))
        for claim in (("and", near, far), ("and", far, near)):
            self.assertEqual(self.check((alone, (), claim), "a"), 33)
        for claim, told in ((("le", step, ("plus", X, 10 ** 6)), 10 ** 6 + 1), (("le", step, ("plus", X, BIG)), BIG + 1),
                            (("le", ("nth", "a", X, 3), ("plus", X, BIG)), BIG // 3),
                            (("or", ("le", step, ("plus", X, 50)), ("le", ("nth", "a", Y, 2), ("plus", Y, BIG))), BIG // 2)):
            self.assertEqual(self.check((alone, (), claim), "a"), told)
        known = (("a", 1, "", (0, 9, ((2, 5),))),)
        self.assertEqual(self.check((known, (), NO), "a"), 4)
        self.assertEqual(self.check((known, (), ("not", ("is", "a", ("at", 2)))), "a"), None)
        self.assertEqual(self.check((known, (NO,), NO), "a"), None)
        self.assertEqual(self.check((known, (), ("or", ("is", "a", ("at", -1)), ("is", "a", ("at", 10)))), "a"), 4)

    def test_too_large(self):
        rules = (("a", 0, "", ()),)
        far = chain_of_days(79)
        fitting, claim = ("le", ("next", "a", far), far), ("le", ("next", "a", far), ("plus", far, -1))
        self.assertEqual(decide((rules, (), fitting))[0], "world")
        for asked in (fitting, ("le", ("next", "a", chain_of_days(80)), X)):
            with self.assertRaises(TooLarge):
                critical_run((rules, (), asked), "a")
        self.assertEqual(critical_run((rules, (), ("le", far, ("next", "a", far))), "a"), ("always",))
        self.assertEqual(verdict((rules, (("le", X, ("at", 0)),), YES)), "always")
        self.assertEqual(claim[0], "le")

    def test_random(self):
        dice = random.Random(94)
        told = {}
        for _ in range(250):
            question = small_question(dice, 3)
            try:
                run = self.check(question, dice.choice(question[0])[0])
            except TooLarge:
                continue
            told[run] = told.get(run, 0) + 1
        self.assertGreater(told[None], 30)
        self.assertGreater(told[1], 30)
        self.assertGreater(sum(told.values()) - told[None] - told[1], 8)


class Limits(Case):
    def test_points(self):
        far = chain_of_days(81)
        for call in (lambda: farther((), (), far, X, 0), lambda: orders((), (), far, X)):
            with self.assertRaises(TooLarge):
                call()
        self.assertEqual(orders((), (), chain_of_days(80), X), ("behind",))

    def test_clauses(self):
        t, u = many_terms()
        count = 100
        while len(all_clauses(many_clauses(count), (), [t, u])) < 7990:
            count += 1
        rules = many_clauses(count - 1)
        for limit, told in ((7997, True), (7999, None), (8000, False)):
            more = conditions_for(rules, t, u, limit)
            self.assertEqual(len(all_clauses(rules, more, [t, u])), limit)
            calls = [lambda: orders(rules, more, t, u), lambda: farther(rules, more, t, u, 26)]
            for call in calls if told is not None else calls[1:]:
                if told is False:
                    with self.assertRaises(TooLarge):
                        call()
                else:
                    call()
