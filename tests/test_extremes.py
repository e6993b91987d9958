"""[7.1] to [7.4] and [7.8], and the section diesnon/extremes.py of the interface."""

import random
import unittest

from diesnon.bounds import Bounds
from diesnon.clauses import all_clauses
from diesnon.errors import Never, TooLarge
from diesnon.extremes import check_most, greatest, least, span, table
from diesnon.meaning import keeps, value
from diesnon.papers import check_paper
from diesnon.points import all_points, point_of
from diesnon.search import solve
from diesnon.worlds import is_world
from tests.allworlds import BOUNDED, bounded_worlds, near_condition, near_term
from tests.pictures import (
    chain_of_days, conditions_for, many_clauses, many_terms, names_in, nodes_of, small_question, small_term,
    some_world_for,
)
from tests.samples import spoilt_nodes

X, Y, Z = ("day", "x"), ("day", "y"), ("day", "z")
YES, NO = ("yes",), ("not", ("yes",))
RULES = (("a", 2, "", ()), ("b", 5, "a", ()))
BIG = 10 ** 30


def difference(world, t, u):
    return value(world, t) - value(world, u)


class Case(unittest.TestCase):
    def names_fit(self, world, rules, nodes):
        self.assertIs(is_world(world), True)
        told = tuple({name for name, _ in part} for part in (world[1], world[0], world[2]))
        self.assertEqual(told, names_in(rules, nodes))

    def check_ends(self, rules, assumptions, t, u):
        """Checks all that is told of the differences of t and u; returns the span."""
        most = greatest(rules, assumptions, t, u)
        low = least(rules, assumptions, t, u)
        kept = (rules, assumptions, YES)
        if most[0] == "endless":
            self.assertEqual(most, ("endless",))
        else:
            word, v, world, paper = most
            self.assertEqual((word, difference(world, t, u)), ("most", v))
            self.assertIs(keeps(world, kept), True)
            self.names_fit(world, rules, [*assumptions, t, u])
            self.assertIs(check_most(rules, assumptions, t, u, v, paper), True)
            self.assertIs(check_most(rules, assumptions, t, u, v - 1, paper), False)
        if low[0] == "endless":
            self.assertEqual(low, ("endless",))
        else:
            word, v, world, paper = low
            self.assertEqual((word, difference(world, t, u)), ("least", v))
            self.assertIs(keeps(world, kept), True)
            self.names_fit(world, rules, [*assumptions, t, u])
            self.assertIs(check_most(rules, assumptions, u, t, -v, paper), True)
            self.assertIs(check_most(rules, assumptions, u, t, -v - 1, paper), False)
        ends = tuple(None if told[0] == "endless" else told[1] for told in (low, most))
        self.assertEqual(span(rules, assumptions, t, u), ends)
        return ends

    def check_never(self, rules, assumptions, t, u):
        for call in (greatest, least, span):
            with self.assertRaises(Never):
                call(rules, assumptions, t, u)
        for terms in ([], [t], [t, u]):
            with self.assertRaises(Never):
                table(rules, assumptions, terms)


class Told(Case):
    def test_small(self):
        flag = ("flag", "f")
        for rules, assumptions, t, u, ends in (
            (RULES, (), X, X, (0, 0)), (RULES, (), ("plus", X, -7), X, (-7, -7)), (RULES, (), X, Y, (None, None)),
            (RULES, (("le", X, Y),), X, Y, (None, 0)), (RULES, (("le", X, Y),), Y, X, (0, None)),
            ((), (("le", X, ("plus", Y, 5)), ("le", Z, Y)), X, Y, (None, 5)),
            ((), (("le", X, ("plus", Y, 5)), ("le", Y, Z), ("le", Z, ("plus", Y, 3))), X, Y, (None, 5)),
            ((), (("le", X, ("plus", Y, BIG)), ("le", Z, ("plus", Y, -BIG)), ("le", ("at", 0), Z)), X, Y, (None, BIG)),
            (RULES, (), ("next", "a", X), X, (0, 2)), (RULES, (), ("prev", "a", X), X, (-2, 0)),
            (RULES, (), ("next", "b", X), X, (0, 5)), (RULES, (), ("next", "b", X), ("next", "a", X), (0, 5)),
            (RULES, (), ("next", "b", X), ("prev", "b", X), (0, 6)),
            (RULES, (("not", ("is", "b", X)),), ("next", "b", X), ("prev", "b", X), (2, 6)),
            (RULES, (), ("nth", "a", X, 3), X, (3, 9)), (RULES, (), ("nth", "b", X, -6), X, (-36, -6)),
            ((), (), ("next", "a", X), X, (0, None)), ((), (), ("prev", "a", X), X, (None, 0)),
            (RULES, (), ("if", flag, X, ("plus", X, 9)), X, (0, 9)), (RULES, (flag,), ("if", flag, X, ("plus", X, 9)), X, (0, 0)),
            (RULES, (), ("later", X, ("plus", X, 4)), X, (4, 4)), (RULES, (), ("later", X, Y), X, (0, None)),
            (RULES, (), ("earlier", X, Y), ("later", X, Y), (None, 0)),
            (RULES, (("le", ("at", 3), X), ("le", X, ("at", BIG))), X, ("at", 1), (2, BIG - 1)),
            ((("a", BIG, "", ()),), (), ("next", "a", X), X, (0, BIG)),
            ((("a", 3, "", (0, 9, ((2, 3), (6, 8)))),), (("le", ("at", 0), X), ("le", X, ("at", 4))),
             ("nth", "a", X, 2), X, (2, 5)),
        ):
            self.assertEqual(self.check_ends(rules, assumptions, t, u), ends, (t, u))

    def test_never(self):
        self.check_never(RULES, (NO,), X, Y)
        self.check_never(RULES, (("le", ("plus", X, 1), X),), X, Y)
        self.check_never((("a", 0, "", (0, 0, ((0, 0),))), ("b", 0, "a", (0, 0, ()))), (), X, X)

    def test_many_steps(self):
        """Many choices, each a little better than the one before, and endless at the end of them."""
        term = X
        for k in range(8):
            term = ("if", ("flag", "f" + "x" * k), ("plus", term, 3 ** k), term)
        self.assertEqual(self.check_ends((), (), term, X), (0, (3 ** 8 - 1) // 2))
        other = ("if", ("flag", "g"), term, Y)
        self.assertEqual(self.check_ends((), (), other, X), (None, None))

    def test_random(self):
        dice = random.Random(81)
        told = {"never": 0, "endless": 0, "most": 0}
        tried = 0
        for _ in range(120):
            rules, assumptions, _ = question = small_question(dice, 2)
            t, u = small_term(dice, dice.randint(1, 3)), small_term(dice, dice.randint(1, 3))
            try:
                low, high = self.check_ends(rules, assumptions, t, u)
            except TooLarge:
                continue
            except Never:
                told["never"] += 1
                self.check_never(rules, assumptions, t, u)
                continue
            told["endless" if high is None else "most"] += 1
            for _ in range(10):
                world = some_world_for(dice, rules, [*nodes_of(question), t, u])
                if keeps(world, question):
                    tried += 1
                    found = difference(world, t, u)
                    self.assertTrue((low is None or low <= found) and (high is None or found <= high))
        self.assertGreater(min(told.values()), 10)
        self.assertGreater(tried, 50)

    def test_against_all_worlds(self):
        dice = random.Random(82)
        rules = (("court", 2, "", ()),)
        worlds = bounded_worlds(2)
        for _ in range(5):
            assumptions = BOUNDED + (near_condition(dice),)
            t, u = near_term(dice), near_term(dice)
            found = [difference(world, t, u) for world in worlds if keeps(world, (rules, assumptions, YES))]
            if found:
                self.assertEqual(self.check_ends(rules, assumptions, t, u), (min(found), max(found)))
            else:
                self.check_never(rules, assumptions, t, u)

    def test_bounds_of_a_choice(self):
        """[7.2]: no choice of literals that goes together has a greater bound."""
        dice = random.Random(83)
        for _ in range(60):
            rules, assumptions, _ = small_question(dice, 2)
            t, u = small_term(dice, 2), small_term(dice, 2)
            try:
                made = all_points(rules, assumptions, [t, u])
                rows = all_clauses(rules, assumptions, [t, u])
                _, high = span(rules, assumptions, t, u)
            except (TooLarge, Never):
                continue
            for _ in range(5):
                bounds = Bounds(len(made))
                if all(any(bounds.add(*literal) for literal in dice.sample(row, len(row))) for row in rows):
                    bound = bounds.bound(point_of(made, t), point_of(made, u))
                    self.assertTrue(high is None or (bound is not None and bound <= high))


class Papers(Case):
    def test_problem(self):
        """[7.4]: the paper is one of the clauses of the picture, and behind them that of the bound."""
        t, assumptions = ("next", "b", ("plus", X, 3)), (("le", X, Y),)
        for first, second, v, paper in ((t, X, *greatest(RULES, assumptions, t, X)[1::2]),
                                        (X, t, -least(RULES, assumptions, t, X)[1], least(RULES, assumptions, t, X)[3])):
            made = all_points(RULES, assumptions, [first, second])
            rows = list(all_clauses(RULES, assumptions, [first, second]))
            rows.append(((point_of(made, second), point_of(made, first), -v - 1),))
            self.assertIs(check_paper(len(made), rows, paper), True)
            looser = solve(len(made), [*rows[:-1], ((point_of(made, second), point_of(made, first), -v - 9),)])[1]
            self.assertIs(check_most(RULES, assumptions, first, second, v + 8, looser), True)

    def test_one_thing_changed(self):
        t = ("next", "a", ("plus", X, 3))
        _, v, _, paper = greatest(RULES, (), t, X)
        self.assertEqual(v, 5)
        self.assertIs(check_most(RULES, (), t, X, v, paper), True)
        for other in (check_most(RULES, (), X, t, v, paper), check_most(RULES, (), t, X, v - 1, paper),
                      check_most((("a", 3, "", ()),), (), t, X, v, paper)):
            self.assertIs(other, False)
        refused = 0
        made, rows = all_points(RULES, (), [t, X]), list(all_clauses(RULES, (), [t, X]))
        rows.append(((point_of(made, X), point_of(made, t), -v - 1),))
        for other in spoilt_nodes(paper, (0, 1, 7, "ring", ())):
            told = check_most(RULES, (), t, X, v, other)
            self.assertIs(told, check_paper(len(made), rows, other))
            refused += not told
        self.assertGreater(refused, 20)


class Table(Case):
    def test_told(self):
        rules = (("a", 2, "", ()),)
        self.assertEqual(table(rules, (), []), [])
        self.assertEqual(table(rules, (), [X]), [[0]])
        self.assertEqual(table(rules, (), [X, X]), [[0, 0], [0, 0]])
        self.assertEqual(table(rules, (), [X, ("next", "a", X), Y]), [[0, 0, None], [2, 0, None], [None, None, 0]])
        self.assertEqual(table(rules, (("le", X, Y),), [X, ("plus", Y, 3)]), [[0, -3], [None, 0]])
        told = table(rules, (), [X, Y])
        told[0].append(5)
        self.assertEqual(table(rules, (), [X, Y]), [[0, None], [None, 0]])

    def test_random(self):
        dice = random.Random(84)
        for _ in range(40):
            rules, assumptions, _ = small_question(dice, 2)
            terms = [small_term(dice, dice.randint(1, 2)) for _ in range(dice.randint(0, 3))]
            try:
                told = table(rules, assumptions, terms)
            except (TooLarge, Never):
                continue
            self.assertEqual([len(row) for row in told], [len(terms)] * len(terms))
            for t, row in zip(terms, told):
                for u, v in zip(terms, row):
                    self.assertEqual(span(rules, assumptions, t, u)[1], v)


class Limits(Case):
    def refused(self, rules, assumptions, t, u):
        for call in (lambda: greatest(rules, assumptions, t, u), lambda: least(rules, assumptions, t, u),
                     lambda: span(rules, assumptions, t, u), lambda: table(rules, assumptions, [t, u]),
                     lambda: check_most(rules, assumptions, t, u, 5, ("ring", ()))):
            with self.assertRaises(TooLarge):
                call()

    def test_points(self):
        self.assertEqual(span((), (), chain_of_days(80), X), (78, 78))
        self.refused((), (), chain_of_days(81), X)
        self.refused((), (NO, ("le", X, chain_of_days(81))), X, X)
        self.refused((("a", 1, "", ()),), (), ("next", "a", chain_of_days(79)), X)
        self.assertEqual(span((("a", 1, "", ()),), (), ("next", "a", chain_of_days(78)), X), (76, 77))

    def test_clauses(self):
        """7999 clauses are allowed, and one more is not."""
        t, u = many_terms()
        count = 100
        while len(all_clauses(many_clauses(count), (), [t, u])) < 8000:
            count += 1
        self.refused(many_clauses(count), (), t, u)
        rules = many_clauses(count - 1)
        limit = conditions_for(rules, t, u, 7999)
        self.assertEqual(len(all_clauses(rules, limit, [t, u])), 7999)
        self.assertEqual(least(rules, limit, t, u)[:2], ("least", 26))
        limit = conditions_for(rules, t, u, 8000)
        self.assertEqual(len(all_clauses(rules, limit, [t, u])), 8000)
        self.refused(rules, limit, t, u)
