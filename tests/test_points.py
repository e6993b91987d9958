"""[4.2] to [4.4] and [4.6], and the section diesnon/points.py of the interface."""

import random
import unittest

from diesnon.errors import Missing, TooLarge
from diesnon.literals import denial, literal_holds
from diesnon.meaning import holds, value
from diesnon.points import MAX_POINTS, all_points, literal_for, point_of, points, values_of
from diesnon.terms import parts_of
from diesnon.worlds import keeps_rules, make_world
from tests.pictures import (
    CALENDARS, chain_of_days, nodes_of, small_condition, small_question, small_rules, small_term, some_world_for,
)
from tests.samples import chain

X, Y = ("day", "x"), ("day", "y")
YES = ("yes",)
BIG = 10 ** 50


def unfolded(made, at):
    """A point with points in the place of indexes, so that it does not matter where they stand."""
    point = made[at]
    word = point[0]
    if word in ("origin", "day", "flag"):
        return point
    if word == "plus":
        return (word, unfolded(made, point[1]), point[2])
    if word in ("next", "prev"):
        return (word, point[1], unfolded(made, point[2]))
    if word in ("later", "earlier"):
        return (word, unfolded(made, point[1]), unfolded(made, point[2]))
    told = [unfolded_literal(made, point[1])]
    if word == "if":
        return (word, *told, unfolded(made, point[2]), unfolded(made, point[3]))
    return (word, *told, unfolded_literal(made, point[2]))


def unfolded_literal(made, literal):
    return (unfolded(made, literal[0]), unfolded(made, literal[1]), literal[2])


class Plain:
    """[4.3], [4.4] and [4.6] told once more, over unfolded points and by recursion."""

    origin = ("origin",)

    def __init__(self, rules, conditions, terms):
        self.rules = {rule[0]: rule for rule in rules}
        self.found = {self.origin}
        for condition in conditions:
            self.literal(condition)
        for term in terms:
            self.point(term)
        self.named = {point[1] for point in self.found if point[0] in ("next", "prev")}
        for rule in rules:
            if rule[1] > 0:
                for anchor in self.all_anchors(rule[0], list(self.found)):
                    self.put(("next", rule[0], anchor))
                    self.put(("prev", rule[0], anchor))

    def put(self, point):
        """Takes in a point and the points that it speaks of."""
        self.found.add(point)
        for part in point[1:]:
            if isinstance(part, tuple) and isinstance(part[0], str):
                self.put(part)
        return point

    def point(self, term):
        word = term[0]
        if word == "at":
            return self.put(("plus", self.origin, term[1]))
        if word == "day":
            return self.put(term)
        if word == "plus":
            return self.put((word, self.point(term[1]), term[2]))
        if word in ("next", "prev"):
            return self.put((word, term[1], self.point(term[2])))
        if word in ("later", "earlier"):
            return self.put((word, self.point(term[1]), self.point(term[2])))
        if word == "if":
            return self.put((word, self.literal(term[1]), self.point(term[2]), self.point(term[3])))
        told = self.point(term[2])
        for _ in range(abs(term[3])):
            if term[3] > 0:
                told = self.put(("next", term[1], self.put(("plus", told, 1))))
            else:
                told = self.put(("prev", term[1], self.put(("plus", told, -1))))
        return told

    def literal(self, condition):
        word = condition[0]
        if word == "le":
            return (self.point(condition[1]), self.point(condition[2]), 0)
        if word == "is":
            told = self.point(condition[2])
            return (self.put(("next", condition[1], told)), told, 0)
        if word == "flag":
            return (self.origin, self.put(condition), -1)
        if word == "yes":
            return (self.origin, self.origin, 0)
        if word == "not":
            a, b, c = self.literal(condition[1])
            return (b, a, -c - 1)
        return (self.origin, self.put((word, self.literal(condition[1]), self.literal(condition[2]))), -1)

    def above(self, name):
        rule = self.rules.get(name, (name, 0, "", ()))
        return [rule[2], *self.above(rule[2])] if rule[2] else []

    def anchors(self, name, found):
        told = {point[2] for point in found if point[0] in ("next", "prev") and point[1] == name}
        known = self.rules.get(name, (name, 0, "", ()))[3]
        return told | {("plus", self.origin, first) for first, _ in (known[2] if known else ())}

    def all_anchors(self, name, found):
        told = set()
        for layer in [name, *self.above(name)]:
            told |= self.anchors(layer, found)
        return told


class Case(unittest.TestCase):
    def check_order(self, made):
        """[4.2]: each point speaks only of points before it, and none is there twice."""
        self.assertIsInstance(made, tuple)
        self.assertEqual(made[0], ("origin",))
        self.assertEqual(len(set(made)), len(made))
        for at, point in enumerate(made):
            self.assertEqual(point == ("origin",), at == 0)
            spoken = [part for part in point[1:] if isinstance(part, int)]
            if point[0] == "plus":
                spoken = [point[1]]
            for part in point[1:]:
                if isinstance(part, tuple):
                    spoken.extend(part[:2])
            for index in spoken:
                self.assertTrue(0 <= index < at, point)

    def check_points(self, rules, conditions, terms):
        made = all_points(rules, conditions, terms)
        self.check_order(made)
        told = [unfolded(made, at) for at in range(len(made))]
        plain = Plain(rules, conditions, terms)
        self.assertEqual(set(told), plain.found)
        self.assertEqual(len(told), len(plain.found))
        return made, plain


class Points(Case):
    def test_small(self):
        for conditions, terms, told in (
            ([], [], [("origin",)]),
            ([YES], [], [("origin",)]),
            ([("not", YES)], [], [("origin",)]),
            ([], [X], [("origin",), X]),
            ([], [X, X, ("plus", X, 0)], [("origin",), X, ("plus", 1, 0)]),
            ([], [("at", 0)], [("origin",), ("plus", 0, 0)]),
            ([("flag", "x")], [X], [("origin",), ("flag", "x"), X]),
            ([("is", "c", X)], [], [("origin",), X, ("next", "c", 1)]),
            ([("not", ("le", X, Y))], [], [("origin",), X, Y]),
            ([], [("nth", "c", X, 2)],
             [("origin",), X, ("plus", 1, 1), ("next", "c", 2), ("plus", 3, 1), ("next", "c", 4)]),
            ([], [("nth", "c", X, -1)], [("origin",), X, ("plus", 1, -1), ("prev", "c", 2)]),
            ([], [("if", ("le", X, Y), Y, X)], [("origin",), X, Y, ("if", (1, 2, 0), 2, 1)]),
            ([("and", YES, ("not", ("flag", "f")))], [],
             [("origin",), ("flag", "f"), ("and", (0, 0, 0), (1, 0, 0))]),
            ([("or", ("flag", "f"), ("not", ("or", YES, YES)))], [],
             [("origin",), ("flag", "f"), ("or", (0, 0, 0), (0, 0, 0)), ("or", (0, 1, -1), (2, 0, 0))]),
        ):
            made, _ = self.check_points((), conditions, terms)
            self.assertEqual(sorted(unfolded(made, at)[0] for at in range(len(made))),
                             sorted(point[0] for point in told))
            self.assertEqual({unfolded(made, at) for at in range(len(made))},
                             {unfolded(told, at) for at in range(len(told))})

    def test_runs(self):
        rules = (("a", 0, "", (0, 9, ((2, 3), (5, 5)))), ("b", 3, "a", (0, 1, ((0, 0),))), ("c", 0, "b", ()))
        made, plain = self.check_points(rules, [], [("next", "a", X), ("prev", "b", Y), ("next", "c", Y)])
        around = {point for point in plain.found if point[0] in ("next", "prev") and point[1] == "b"}
        zero, two, five = (("plus", ("origin",), k) for k in (0, 2, 5))
        self.assertEqual(around, {(word, "b", at) for word in ("next", "prev") for at in (X, Y, zero, two, five)})
        self.assertEqual(len([point for point in made if point[0] in ("next", "prev")]), 12)
        self.assertEqual(len(made), 1 + 2 + 3 + 12)

    def test_no_new_anchors_and_no_bound(self):
        rules = (("a", 2, "", ()), ("b", 2, "a", ()))
        made, _ = self.check_points(rules, [], [("next", "a", X)])
        self.assertEqual(len(made), 2 + 4)
        made, _ = self.check_points((("a", 2, "", ()), ("b", 0, "a", ())), [], [("next", "b", X)])
        self.assertEqual(len(made), 3)
        made, _ = self.check_points((("a", 0, "", (0, 5, ((1, 2),))),), [], [])
        self.assertEqual(made, (("origin",),))
        made, _ = self.check_points((("a", 1, "", (0, 5, ((1, 2),))),), [], [])
        self.assertEqual(len(made), 4)

    def test_random(self):
        dice = random.Random(42)
        large = 0
        for _ in range(250):
            calendars = CALENDARS[:dice.randint(1, 3)]
            rules = small_rules(dice, calendars[:dice.randint(0, 3)])
            conditions = [small_condition(dice, dice.randint(1, 4), calendars) for _ in range(dice.randint(0, 3))]
            terms = [small_term(dice, dice.randint(1, 5), calendars) for _ in range(dice.choice((0, 1, 2, 4, 12)))]
            plain = Plain(rules, conditions, terms)
            if len(plain.found) > MAX_POINTS:
                large += 1
                with self.assertRaises(TooLarge):
                    all_points(rules, conditions, terms)
                continue
            made, _ = self.check_points(rules, tuple(conditions), tuple(terms))
            self.assertEqual(made, all_points(rules, conditions, terms))
            for node in [*conditions, *terms]:
                self.check_found(made, plain, node)
        self.assertGreater(large, 0)

    def check_found(self, made, plain, node):
        """`point_of` and `literal_for` of a node and of all its parts."""
        if node[0] in ("le", "is", "flag", "yes", "not", "and", "or"):
            self.assertEqual(unfolded_literal(made, literal_for(made, node)), plain.literal(node))
        else:
            self.assertEqual(unfolded(made, point_of(made, node)), plain.point(node))
        for part in parts_of(node):
            self.check_found(made, plain, part)

    def test_questions(self):
        dice = random.Random(43)
        for _ in range(60):
            question = small_question(dice)
            rules, assumptions, claim = question
            self.assertEqual(points(question), all_points(rules, [*assumptions, ("not", claim)], []))


class Limits(Case):
    def test_80_and_81(self):
        self.assertEqual(MAX_POINTS, 80)
        self.assertEqual(len(all_points((), [], [chain_of_days(80)])), 80)
        self.assertEqual(len(points(((), (), ("le", chain_of_days(80), X)))), 80)
        with self.assertRaises(TooLarge):
            all_points((), (), (chain_of_days(81),))
        with self.assertRaises(TooLarge):
            points(((), (("le", X, chain_of_days(81)),), YES))

    def test_80_and_81_by_runs(self):
        rules = (("c", 1, "", ()),)
        term = ("next", "c", chain_of_days(78))
        self.assertEqual(len(all_points(rules, [], [term])), 80)
        with self.assertRaises(TooLarge):
            all_points(rules, [], [("next", "c", chain_of_days(79))])

    def test_large_and_deep_nodes(self):
        term = ("day", "x")
        for _ in range(5000):
            term = ("later", term, X) if term == X else ("plus", ("plus", X, 1), 2)
        condition = YES
        for _ in range(3000):
            condition = ("not", condition)
        self.assertEqual(len(all_points((), [condition], [term])), 4)
        self.assertEqual(literal_for((("origin",),), condition), (0, 0, 0))
        self.assertEqual(literal_for((("origin",),), ("not", condition)), (0, 0, -1))
        wide = ("le", X, ("plus", X, BIG))
        for _ in range(11):
            wide = ("and", wide, ("not", wide))
        self.assertEqual(len(all_points((), [wide], [])), 3 + 11)
        with self.assertRaises(TooLarge):
            all_points((), [], [chain(4000)])


class Missed(unittest.TestCase):
    def test_points_that_are_not_there(self):
        made = all_points((), [("is", "c", X)], [("plus", Y, 1)])
        self.assertEqual(made[point_of(made, ("next", "c", X))], ("next", "c", point_of(made, X)))
        for term in (("day", "z"), ("at", 0), ("plus", Y, 2), ("next", "d", X), ("prev", "c", X), ("next", "c", Y),
                     ("later", X, Y), ("if", YES, X, Y), ("nth", "c", X, 1), ("plus", ("day", "z"), 1)):
            with self.assertRaises(Missing):
                point_of(made, term)
        for condition in (("flag", "f"), ("is", "d", X), ("is", "c", Y), ("and", YES, YES), ("or", YES, YES),
                          ("not", ("flag", "f")), ("le", X, ("at", 3))):
            with self.assertRaises(Missing):
                literal_for(made, condition)
        self.assertEqual(len(made), 5)

    def test_names_that_the_world_lacks(self):
        made = all_points((), [("is", "c", X), ("flag", "f")], [])
        whole = make_world({"c": ()}, {"x": 1}, {"f": True})
        self.assertEqual(sorted(values_of(made, whole)), [0, 1, 1, 1])
        for name, world in (("c", make_world({"x": ()}, {"x": 1}, {"f": True})),
                            ("x", make_world({"c": ()}, {"f": 1}, {"f": True})),
                            ("f", make_world({"c": ()}, {"x": 1}, {"c": True}))):
            with self.assertRaises(Missing) as caught:
                values_of(made, world)
            self.assertEqual(caught.exception.name, name)


class Values(unittest.TestCase):
    def test_told(self):
        world = make_world({"c": ((5, 6), (8, 8))}, {"x": 5, "y": -3}, {"f": True, "g": False})
        for term, told in ((X, 5), (("at", -7), -7), (("plus", X, BIG), BIG + 5), (("next", "c", X), 7),
                           (("prev", "c", X), 4), (("later", X, Y), 5), (("earlier", X, Y), -3),
                           (("if", ("flag", "f"), X, Y), 5), (("if", ("flag", "g"), X, Y), -3),
                           (("nth", "c", X, 2), 9), (("nth", "c", ("at", 7), -1), 4)):
            made = all_points((), [], [term])
            values = values_of(made, world)
            self.assertIsInstance(values, tuple)
            self.assertEqual((len(values), values[0]), (len(made), 0))
            self.assertEqual(values[point_of(made, term)], told)
        for condition, told in ((("flag", "f"), 1), (("flag", "g"), 0), (("and", YES, ("flag", "f")), 1),
                                (("and", YES, ("flag", "g")), 0), (("or", YES, ("flag", "g")), 1),
                                (("or", ("flag", "g"), ("flag", "g")), 0)):
            made = all_points((), [condition], [])
            self.assertEqual(values_of(made, world)[literal_for(made, condition)[1]], told)

    def test_random(self):
        dice = random.Random(44)
        kept = 0
        for _ in range(200):
            question = small_question(dice)
            made = points(question)
            world = some_world_for(dice, question[0], nodes_of(question))
            kept += keeps_rules(world, question[0])
            values = values_of(made, world)
            for condition in [*question[1], question[2]]:
                literal = literal_for(made, condition)
                self.assertIs(literal_holds(literal, values), holds(world, condition))
                self.assertIs(literal_holds(denial(literal), values), not holds(world, condition))
                rows = [condition]
                while rows:
                    node = rows.pop()
                    rows.extend(parts_of(node))
                    if node[0] not in ("le", "is", "flag", "yes", "not", "and", "or"):
                        self.assertEqual(values[point_of(made, node)], value(world, node))
        self.assertGreater(kept, 20)
