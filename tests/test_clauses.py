"""[4.1], [4.5], [4.7] and [4.8], and the section diesnon/clauses.py of the interface."""

import random
import unittest

from diesnon.clauses import all_clauses, clauses
from diesnon.errors import TooLarge
from diesnon.literals import all_hold, clause_holds, literal_holds
from diesnon.meaning import answers, holds, keeps
from diesnon.points import all_points, literal_for, point_of, points, values_of
from diesnon.worlds import keeps_rule, keeps_rules, make_world
from tests.pictures import CALENDARS, chain_of_days, nodes_of, small_condition, small_question, small_term, some_world_for

X, Y = ("day", "x"), ("day", "y")
YES = ("yes",)


def canonical(rows):
    """The clauses without their order, that of their literals, and repetitions."""
    return {tuple(sorted(clause)) for clause in rows}


def plain_clauses(rules, conditions, made):
    """[4.7] told once more, point by point, with days of known days one by one."""
    table = {point[1]: (point[1], 0, "", ()) for point in made if point[0] in ("next", "prev")}
    table.update({rule[0]: rule for rule in rules})

    def above(name):
        within = table[name][2]
        return {within} | above(within) if within else set()

    def no(literal):
        return (literal[1], literal[0], -literal[2] - 1)

    rows = []
    for p, point in enumerate(made):
        word = point[0]
        if word == "plus":
            rows += [((p, point[1], point[2]),), ((point[1], p, -point[2]),)]
        if word == "next":
            rows.append(((point[2], p, 0),))
        if word == "prev":
            rows.append(((p, point[2], 0),))
        if word == "later":
            rows += [((point[1], p, 0),), ((point[2], p, 0),), ((p, point[1], 0), (p, point[2], 0))]
        if word == "earlier":
            rows += [((p, point[1], 0),), ((p, point[2], 0),), ((point[1], p, 0), (point[2], p, 0))]
        if word == "if":
            l, i, j = point[1:]
            rows += [(no(l), (p, i, 0)), (no(l), (i, p, 0)), (l, (p, j, 0)), (l, (j, p, 0))]
        l = (0, p, -1)
        if word == "and":
            rows += [(no(l), point[1]), (no(l), point[2]), (l, no(point[1]), no(point[2]))]
        if word == "or":
            rows += [(no(l), point[1], point[2]), (l, no(point[1])), (l, no(point[2]))]
    for name, (_, run, _, known) in table.items():
        layers = {other for other in table if other == name or name in above(other)}
        opened = [at for at, point in enumerate(made) if point[0] in ("next", "prev") and point[1] in layers]
        pieces = []
        for other in layers:
            if table[other][3]:
                first, last, closed = table[other][3]
                days = [day for day in range(first, last + 1) if not any(a <= day <= b for a, b in closed)]
                begins = [day for day in days if day - 1 not in days]
                ends = [day for day in days if day + 1 not in days]
                pieces += list(zip(begins, ends))
        closed = known[2] if known else ()
        for q, point in enumerate(made):
            if point[0] in ("next", "prev") and point[1] == name:
                i = point[2]
                for r in opened:
                    if r != q and point[0] == "next":
                        rows.append(((r, i, -1), (q, r, 0)))
                    elif r != q:
                        rows.append(((r, q, 0), (i, r, -1)))
                for u, v in pieces:
                    if point[0] == "next":
                        rows.append(((q, 0, u), (0, i, -v - 1), (q, i, 0)))
                    else:
                        rows.append(((i, 0, u - 1), (0, q, -v), (i, q, 0)))
        for a, b in closed:
            rows += [((r, 0, a - 1), (0, r, -b - 1)) for r in opened]
            rows += [() for u, v in pieces if not (b < u or v < a)]
        if run:
            for layer in {name} | above(name):
                anchors = [point[2] for point in made if point[0] in ("next", "prev") and point[1] == layer]
                known_above = table[layer][3][2] if table[layer][3] else ()
                anchors += [made.index(("plus", 0, a)) for a, _ in known_above]
                rows += [((made.index(("next", name, i)), made.index(("prev", name, i)), run + 1),) for i in anchors]
    rows += [(literal_for(made, condition),) for condition in conditions]
    return rows


class Told(unittest.TestCase):
    def check(self, rules, conditions, terms):
        made = all_points(rules, conditions, terms)
        rows = all_clauses(rules, conditions, terms)
        self.assertIsInstance(rows, tuple)
        self.assertTrue(all(isinstance(clause, tuple) for clause in rows))
        self.assertEqual(canonical(rows), canonical(plain_clauses(rules, conditions, made)))
        return made, rows

    def test_small(self):
        for rules, conditions, terms, told in (
            ((), [], [], []),
            ((), [YES], [], [((0, 0, 0),)]),
            ((), [("not", YES)], [], [((0, 0, -1),)]),
            ((), [], [X], []),
            ((), [("le", X, Y)], [], [((1, 2, 0),)]),
            ((), [("flag", "f"), ("not", ("flag", "f"))], [], [((0, 1, -1),), ((1, 0, 0),)]),
            ((), [], [("at", 5)], [((1, 0, 5),), ((0, 1, -5),)]),
            ((), [("is", "c", X)], [], [((1, 2, 0),), ((2, 1, 0),)]),
            ((), [("not", ("is", "c", X))], [], [((1, 2, 0),), ((1, 2, -1),)]),
            ((("c", 0, "", (0, 5, ((2, 3),))),), [], [], []),
            ((("c", 0, "", (0, 5, ((2, 3),))),), [], [("next", "c", X)],
             [((1, 2, 0),), ((2, 0, 1), (0, 2, -4)), ((2, 0, 0), (0, 1, -2), (2, 1, 0)),
              ((2, 0, 4), (0, 1, -6), (2, 1, 0))]),
            ((("c", 0, "", (0, 5, ((2, 3),))),), [], [("prev", "c", X)],
             [((2, 1, 0),), ((2, 0, 1), (0, 2, -4)), ((1, 0, -1), (0, 2, -1), (1, 2, 0)),
              ((1, 0, 3), (0, 2, -5), (1, 2, 0))]),
        ):
            _, rows = self.check(rules, conditions, terms)
            self.assertEqual(canonical(rows), canonical(told))

    def test_known_days_that_meet(self):
        outer = ("a", 0, "", (0, 9, ((4, 6),)))
        for closed, told in ((((4, 6),), False), (((3, 8),), False), (((5, 6),), True), ((), True), (((0, 9),), False)):
            rows = all_clauses((outer, ("b", 0, "a", (0, 9, closed))), [], [])
            self.assertIs(() in rows, told, closed)
            self.check((outer, ("b", 0, "a", (0, 9, closed))), [], [])
        for first, last, told in ((0, 3, False), (0, 4, True), (6, 9, True), (7, 9, False)):
            rows = all_clauses((outer, ("b", 0, "", ()), ("c", 0, "a", (first, last, ()))), [], [])
            self.assertIs(() in rows, told)
        rows = all_clauses((outer, ("b", 0, "a", ()), ("c", 0, "b", (4, 4, ()))), [], [])
        self.assertIn((), rows)

    def test_runs(self):
        rules = (("a", 0, "", (0, 3, ((1, 2),))), ("b", 4, "a", ()))
        made, rows = self.check(rules, [], [("next", "a", X)])
        zero = point_of(made, ("at", 1))
        for anchor in (zero, point_of(made, X)):
            row = ((made.index(("next", "b", anchor)), made.index(("prev", "b", anchor)), 5),)
            self.assertIn(row, rows)
        self.assertEqual(len([clause for clause in rows if len(clause) == 1 and clause[0][2] == 5]), 2)

    def test_layers(self):
        rules = (("a", 0, "", ()), ("b", 0, "a", ()), ("c", 0, "b", ()))
        made, rows = self.check(rules, [], [("next", "a", X), ("prev", "c", Y)])
        x, y = point_of(made, X), point_of(made, Y)
        q, p = made.index(("next", "a", x)), made.index(("prev", "c", y))
        self.assertIn(tuple(sorted(((p, x, -1), (q, p, 0)))), canonical(rows))
        self.assertNotIn(tuple(sorted(((q, p, 0), (y, q, -1)))), canonical(rows))

    def test_random(self):
        dice = random.Random(45)
        count = 0
        for _ in range(300):
            question = small_question(dice, dice.randint(1, 4))
            terms = [small_term(dice, 3) for _ in range(dice.randint(0, 2))]
            conditions = [*question[1], ("not", question[2])]
            try:
                made, rows = self.check(question[0], conditions, terms)
            except TooLarge:
                continue
            count += 1
            self.assertEqual(clauses(question), all_clauses(question[0], conditions, []))
            for clause in rows:
                for a, b, _ in clause:
                    self.assertTrue(0 <= a < len(made) and 0 <= b < len(made))
        self.assertGreater(count, 250)

    def test_too_large(self):
        self.assertEqual(len(all_clauses((), [], [chain_of_days(80)])), 156)
        with self.assertRaises(TooLarge):
            all_clauses((), [], [chain_of_days(81)])
        with self.assertRaises(TooLarge):
            clauses(((), (), ("le", chain_of_days(81), X)))


class Meaning(unittest.TestCase):
    """[4.8], and that conditions have the literals that tell whether they hold."""

    def test_worlds(self):
        dice = random.Random(46)
        counts = {"rules": 0, "broken": 0, "answers": 0}
        for _ in range(400):
            question = small_question(dice, 3, 2)
            try:
                made, rows = points(question), clauses(question)
            except TooLarge:
                continue
            world = some_world_for(dice, question[0], nodes_of(question))
            values = values_of(made, world)
            conditions = [*question[1], ("not", question[2])]
            own = {(literal_for(made, condition),) for condition in conditions}
            others = [clause for clause in rows if clause not in own]
            if keeps_rules(world, question[0]):
                counts["rules"] += 1
                self.assertTrue(all_hold(others, values))
                self.assertIs(all_hold(rows, values), answers(world, question))
                for condition in conditions:
                    self.assertIs(literal_holds(literal_for(made, condition), values), holds(world, condition))
                counts["answers"] += answers(world, question)
                self.assertFalse(answers(world, question) and not keeps(world, question))
            elif not all_hold(others, values):
                counts["broken"] += 1
        self.assertGreater(min(counts.values()), 20)

    def test_values_that_no_world_has(self):
        rules = (("c", 2, "", (0, 9, ((4, 5),))),)
        question = (rules, (), ("le", ("next", "c", X), X))
        made, rows = points(question), clauses(question)
        world = make_world({"c": ((4, 5),)}, {"x": 4}, {})
        self.assertTrue(keeps_rule(world, rules[0]) and answers(world, question))
        values = values_of(made, world)
        self.assertTrue(all_hold(rows, values))
        for at in [at for at, point in enumerate(made) if point != X]:
            for change in (-1, 1):
                changed = values[:at] + (values[at] + change,) + values[at + 1:]
                self.assertFalse(all_hold(rows, changed), (made[at], change))
        self.assertFalse(clause_holds((), values))

    def test_calendar_without_a_rule(self):
        for rules in ((), (("court", 0, "", ()),)):
            rows = all_clauses(rules, [("is", "court", X)], [("next", "court", Y)])
            self.assertEqual(canonical(rows), canonical(all_clauses((), [("is", "court", X)], [("next", "court", Y)])))
        self.assertIn("court", CALENDARS)
        self.assertTrue(small_condition(random.Random(1), 2))
