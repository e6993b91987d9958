"""[2.9], [2.10], with [1.4], [1.9] and [2.2] to [2.5], and the section diesnon/meaning.py of the interface."""

import random
import unittest

from diesnon.errors import Missing, TooLarge
from diesnon.meaning import answers, holds, keeps, value
from diesnon.terms import names_of, with_days
from diesnon.worlds import make_world, set_day
from tests.samples import (
    CALENDARS, chain, days_of, row, some_closed, some_condition, some_question, some_term, some_world,
)

X, Y = ("day", "x"), ("day", "y")
YES = ("yes",)
BIG = 10 ** 50
WORLD = make_world({"court": ((5, 6), (8, 8)), "bank": ()}, {"x": 5, "y": -3}, {"f": True, "g": False})


def plain_meaning(world, node):
    """[2.2], [2.3] and [1.4] told once more, by recursion and day by day."""
    closed = {name: days_of(pairs) for name, pairs in world[0]}
    days, flags = dict(world[1]), dict(world[2])

    def steps(name, day, by, count):
        """Goes on by one day until `count` open days have been met; the first one may be day itself."""
        left = count - (day not in closed[name])
        while left > 0:
            day += by
            left -= day not in closed[name]
        return day

    def told(part):
        word = part[0]
        if word in ("next", "prev"):
            return steps(part[1], told(part[2]), 1 if word == "next" else -1, 1)
        if word == "nth":
            by = 1 if part[3] > 0 else -1
            return steps(part[1], told(part[2]) + by, by, abs(part[3]))
        return {
            "day": lambda: days[part[1]], "at": lambda: part[1], "plus": lambda: told(part[1]) + part[2],
            "later": lambda: sorted([told(part[1]), told(part[2])])[1],
            "earlier": lambda: sorted([told(part[1]), told(part[2])])[0],
            "if": lambda: told(part[2]) if told(part[1]) else told(part[3]),
            "le": lambda: not told(part[1]) > told(part[2]), "is": lambda: told(part[2]) not in closed[part[1]],
            "flag": lambda: flags[part[1]], "yes": lambda: True, "not": lambda: not told(part[1]),
            "and": lambda: told(part[1]) and told(part[2]), "or": lambda: told(part[1]) or told(part[2]),
        }[word]()

    return told(node)


class Case(unittest.TestCase):
    def missing(self, name, call, *told):
        with self.assertRaises(Missing) as caught:
            call(*told)
        self.assertEqual(caught.exception.name, name)


class Values(Case):
    def test_terms(self):
        for term, told in (
            (X, 5), (("at", -7), -7), (("plus", X, -9), -4), (("next", "court", X), 7), (("prev", "court", X), 4),
            (("next", "court", ("at", 7)), 7), (("prev", "court", ("at", 7)), 7), (("next", "bank", X), 5),
            (("nth", "court", X, 1), 7), (("nth", "court", X, 2), 9), (("nth", "court", ("at", 7), 1), 9),
            (("nth", "court", ("at", 7), -1), 4), (("nth", "court", ("at", 9), -3), 3), (("nth", "bank", X, -6), -1),
            (("later", X, Y), 5), (("earlier", X, Y), -3), (("later", X, X), 5),
            (("if", ("flag", "f"), X, Y), 5), (("if", ("flag", "g"), X, Y), -3),
        ):
            self.assertEqual(value(WORLD, term), told)

    def test_conditions(self):
        for condition, told in (
            (("le", X, Y), False), (("le", Y, X), True), (("le", X, X), True), (("is", "court", X), False),
            (("is", "court", ("at", 7)), True), (("is", "bank", X), True), (("flag", "f"), True), (("flag", "g"), False),
            (YES, True), (("not", YES), False), (("not", ("flag", "g")), True),
            (("and", YES, ("flag", "g")), False), (("and", YES, YES), True), (("and", ("flag", "g"), YES), False),
            (("or", YES, ("flag", "g")), True), (("or", ("flag", "g"), ("flag", "g")), False),
        ):
            self.assertIs(holds(WORLD, condition), told)

    def test_day_by_day(self):
        dice = random.Random(16)
        for _ in range(400):
            world = some_world(dice)
            term, condition = self.near(some_term(dice, 5)), self.near(some_condition(dice, 5))
            self.assertEqual(value(world, term), plain_meaning(world, term))
            self.assertIs(holds(world, condition), plain_meaning(world, condition))

    def near(self, node):
        """The node with numbers that keep its days near the closed days of the samples."""
        if isinstance(node, tuple):
            return tuple(self.near(part) for part in node)
        return max(-9, min(9, node)) if isinstance(node, int) else node

    def test_any_size(self):
        world = make_world({"c": ((-BIG, BIG),)}, {"x": 0, "y": BIG}, {})
        self.assertEqual(value(world, ("next", "c", X)), BIG + 1)
        self.assertEqual(value(world, ("nth", "c", X, -6)), -BIG - 6)
        self.assertEqual(value(world, ("plus", Y, 1000000)), BIG + 1000000)
        self.assertIs(holds(world, ("le", Y, ("plus", Y, -1))), False)

    def test_beyond_the_limits(self):
        self.assertEqual(value(WORLD, chain(600)), 604)
        self.assertIs(holds(WORLD, row(3000)), True)


class Names(Case):
    world = make_world({"court": ()}, {"x": 1}, {"f": True})

    def test_order(self):
        y, z = ("day", "y"), ("day", "z")
        for condition, name in (
            (("and", ("flag", "a"), ("and", ("is", "b", z), ("le", z, y))), "y"),
            (("and", ("flag", "a"), ("and", ("is", "c", X), ("is", "b", X))), "b"),
            (("or", ("flag", "h"), ("or", ("flag", "f"), ("flag", "g"))), "g"),
            (("and", ("flag", "a"), ("is", "b", X)), "b"), (("is", "b", z), "z"),
        ):
            self.missing(name, holds, self.world, condition)
            self.missing(name, value, self.world, ("if", condition, X, ("at", 0)))

    def test_what_is_not_needed(self):
        for condition, name in (
            (("or", YES, ("flag", "g")), "g"), (("and", ("not", YES), ("le", Y, X)), "y"), (("or", YES, ("is", "b", X)), "b"),
        ):
            self.missing(name, holds, self.world, condition)
        for term, name in ((("if", YES, X, Y), "y"), (("if", ("flag", "g"), X, X), "g"),
                           (("if", YES, X, ("next", "b", X)), "b")):
            self.missing(name, value, self.world, term)

    def test_kinds_of_names(self):
        for term, name in ((("day", "court"), "court"), (("next", "x", X), "x"), (("prev", "f", X), "f"),
                           (("nth", "x", X, 1), "x")):
            self.missing(name, value, self.world, term)
        self.missing("x", holds, self.world, ("flag", "x"))


class Questions(Case):
    def test_random(self):
        dice = random.Random(17)
        told = []
        for _ in range(500):
            question, world = some_question(dice, 3), some_world(dice)
            rules, assumptions, claim = question
            if not self.is_near((assumptions, claim)):
                continue
            kept = all(self.keeps_rule(world, rule) for rule in rules)
            kept = kept and all(plain_meaning(world, part) for part in assumptions)
            self.assertIs(keeps(world, question), kept)
            self.assertIs(answers(world, question), kept and not plain_meaning(world, claim))
            told.append((keeps(world, question), answers(world, question)))
        self.assertEqual(set(told), {(False, False), (True, False), (True, True)})

    def is_near(self, node):
        if isinstance(node, tuple):
            return all(self.is_near(part) for part in node)
        return not isinstance(node, int) or abs(node) < 100

    def keeps_rule(self, world, rule):
        name, run, within, known = rule
        calendars = dict(world[0])
        closed = calendars[name]
        kept = run == 0 or all(last - first < run for first, last in closed)
        if within:
            kept = kept and days_of(calendars[within]) <= days_of(closed)
        if known:
            kept = kept and days_of(closed) & set(range(known[0], known[1] + 1)) == days_of(known[2])
        return kept

    def test_rules(self):
        world = make_world({"court": ((5, 6),), "bank": ((5, 8),)}, {}, {})
        for rules, kept in (
            ((), True), ((("court", 2, "", ()),), True), ((("court", 1, "", ()),), False), ((("bank", 0, "", ()),), True),
            ((("court", 0, "", ()), ("bank", 0, "court", ())), True), ((("bank", 0, "", ()), ("court", 0, "bank", ())), False),
            ((("court", 0, "", (4, 5, ((5, 5),))),), True), ((("court", 0, "", (4, 5, ())),), False),
            ((("court", 2, "", ()), ("bank", 3, "", ())), False),
        ):
            self.assertIs(keeps(world, (rules, (), YES)), kept)
            self.assertIs(answers(world, (rules, (), YES)), False)
            self.assertIs(answers(world, (rules, (), ("not", YES))), kept)

    def test_assumptions_and_claim(self):
        yes, no = YES, ("flag", "g")
        for assumptions, claim, kept, answered in (
            ((), yes, True, False), ((), no, True, True), ((yes, yes), no, True, True), ((yes, no), no, False, False),
            ((no, yes), yes, False, False), ((no,), no, False, False),
        ):
            self.assertIs(keeps(WORLD, ((), assumptions, claim)), kept)
            self.assertIs(answers(WORLD, ((), assumptions, claim)), answered)

    def test_missing(self):
        world = make_world({"court": ((0, 9),)}, {"x": 1}, {"f": False})
        bad, no = ("court", 1, "", ()), ("flag", "f")
        c, b = ("c", 0, "court", ()), ("b", 0, "c", ())
        for rules, assumptions, name in (
            ((bad, c, b), (("flag", "a"),), "b"), ((bad,), (no, ("le", Y, X)), "y"),
            ((bad,), (("flag", "g"), ("le", Y, X)), "g"), ((c,), (("le", Y, X),), "c"),
            ((), (("and", ("flag", "g"), ("le", X, Y)),), "y"),
        ):
            self.missing(name, keeps, world, (rules, assumptions, ("flag", "h")))
            self.missing(name, answers, world, (rules, assumptions, ("flag", "h")))

    def test_missing_for_the_claim(self):
        world = make_world({"court": ((0, 9),)}, {}, {"f": False})
        for rules, assumptions in (((), ()), ((("court", 1, "", ()),), ()), ((), (("flag", "f"),))):
            question = (rules, assumptions, ("or", YES, ("flag", "h")))
            self.assertIs(keeps(world, question), rules == assumptions == ())
            self.missing("h", answers, world, question)


class DaysInPlace(Case):
    def test_same_meaning(self):
        dice = random.Random(18)
        done = 0
        for _ in range(200):
            world = some_world(dice)
            names = ("a", "court", "le")
            table = {name: some_term(dice, 2) for name in names}
            node = some_condition(dice, 4)
            changed = world
            for name in names:
                changed = set_day(changed, name, value(world, table[name]))
            try:
                told = with_days(node, table)
            except TooLarge:
                continue
            done += 1
            self.assertIs(holds(world, told), holds(changed, node))
            self.assertLessEqual(set(names_of(told)[1]), set(CALENDARS))
        self.assertGreater(done, 150)
