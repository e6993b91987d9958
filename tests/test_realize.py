"""[6.1], [6.2], and the section diesnon/realize.py of the interface."""

import random
import unittest

from diesnon.clauses import all_clauses, clauses
from diesnon.errors import NotAllowed, TooLarge
from diesnon.literals import all_hold
from diesnon.meaning import answers, holds
from diesnon.points import all_points, points, values_of
from diesnon.realize import realize, world_of_values
from diesnon.search import solve
from diesnon.worlds import is_world, keeps_rules
from tests.pictures import chain_of_days, names_in, nodes_of, small_condition, small_question, small_rules, small_term

X, Y = ("day", "x"), ("day", "y")
YES, NO = ("yes",), ("not", ("yes",))
BIG = 10 ** 40


class Told(unittest.TestCase):
    def test_names_and_order(self):
        rules = (("c", 0, "", ()), ("a", 0, "", ()), ("b", 0, "a", ()))
        conditions = [("le", ("day", "z"), ("day", "m")), ("flag", "q"), ("not", ("flag", "p")), ("is", "d", ("day", "z"))]
        made = all_points(rules, conditions, [])
        values = solve(len(made), list(all_clauses(rules, conditions, [])))[1]
        world = world_of_values(rules, made, values)
        self.assertIs(is_world(world), True)
        self.assertEqual([name for name, _ in world[0]], ["a", "b", "c", "d"])
        self.assertEqual([name for name, _ in world[1]], ["m", "z"])
        self.assertEqual(world[2], (("p", False), ("q", True)))

    def test_stretches(self):
        rules = (("a", 0, "", (0, 9, ((4, 5),))), ("b", 0, "a", (0, 3, ((1, 1),))), ("c", 0, "b", ()))
        made = all_points(rules, [], [("next", "a", X), ("prev", "b", Y)])
        table = {"origin": 0, "day": {"x": 20, "y": -4}, "next": 23, "prev": -8}
        values = [table[point[0]] if point[0] != "day" else table["day"][point[1]] for point in made]
        self.assertTrue(all_hold(all_clauses(rules, [], [("next", "a", X), ("prev", "b", Y)]), values))
        told = (("a", ((4, 5), (20, 22))), ("b", ((-7, -4), (1, 1), (4, 5), (20, 22))),
                ("c", ((-7, -4), (1, 1), (4, 5), (20, 22))))
        self.assertEqual(world_of_values(rules, made, values), (told, (("x", 20), ("y", -4)), ()))
        self.assertEqual(world_of_values(rules, made, tuple(value + BIG for value in values))[:2],
                         (told, (("x", 20), ("y", -4))))

    def test_without_days_in_stretches(self):
        made = all_points((), [], [("next", "c", X), ("prev", "c", X)])
        self.assertEqual(world_of_values((), made, [0] + [7] * 3), ((("c", ()),), (("x", 7),), ()))

    def test_flags(self):
        made = all_points((), [("or", ("flag", "f"), ("not", ("flag", "f")))], [])
        at = made.index(("flag", "f"))
        for number, told in ((1, True), (0, False), (-BIG, False), (BIG, True), (2, True)):
            values = [5 if point == ("origin",) else 5 + number if k == at else 6 for k, point in enumerate(made)]
            self.assertEqual(world_of_values((), made, values), ((), (), (("f", told),)))


class Realize(unittest.TestCase):
    def test_moved(self):
        question = ((("c", 0, "", ()),), (), ("le", ("next", "c", X), ("plus", X, 1)))
        made, rows = points(question), clauses(question)
        values = solve(len(made), list(rows))[1]
        world = realize(question, values)
        self.assertIs(answers(world, question), True)
        for by in (0, 1, -9, BIG):
            self.assertEqual(realize(question, [value + by for value in values]), world)
            self.assertEqual(realize(question, tuple(value + by for value in values)), world)

    def test_refused(self):
        question = ((("c", 3, "", ()),), (), ("le", ("next", "c", X), X))
        made, rows = points(question), clauses(question)
        values = list(solve(len(made), list(rows))[1])
        self.assertIs(answers(realize(question, values), question), True)
        for wrong in (values[:-1], [*values, 0], [], [0], values * 2):
            with self.assertRaises(NotAllowed):
                realize(question, wrong)
        refused = 0
        for at in range(len(values)):
            for by in (-1, 1, 5, -BIG):
                wrong = values[:at] + [values[at] + by] + values[at + 1:]
                if all_hold(rows, wrong):
                    self.assertIs(answers(realize(question, wrong), question), True)
                else:
                    refused += 1
                    with self.assertRaises(NotAllowed):
                        realize(question, wrong)
        self.assertGreater(refused, 5)
        self.assertEqual(realize(((), (), NO), [4]), ((), (), ()))
        with self.assertRaises(NotAllowed):
            realize(((), (), YES), [4])
        with self.assertRaises(TooLarge):
            realize(((), (), ("le", chain_of_days(81), X)), [0])

    def test_random(self):
        dice = random.Random(71)
        count = 0
        for _ in range(200):
            question = small_question(dice, 3)
            try:
                made, rows = points(question), clauses(question)
            except TooLarge:
                continue
            word, values = solve(len(made), list(rows))
            if word == "values":
                count += 1
                world = realize(question, values)
                self.assertEqual(world, world_of_values(question[0], made, values))
                self.assertIs(is_world(world), True)
                self.assertIs(answers(world, question), True)
                told = names_in(question[0], nodes_of(question))
                self.assertEqual(tuple({name for name, _ in part} for part in (world[1], world[0], world[2])), told)
        self.assertGreater(count, 80)

    def test_values_stay(self):
        """[6.2]: points of the world have their values, but those of flags and the like are 0 or 1."""
        dice = random.Random(72)
        for _ in range(150):
            rules = small_rules(dice)
            conditions = [small_condition(dice, 3) for _ in range(dice.randint(0, 2))]
            terms = [small_term(dice, 3)]
            try:
                made, rows = all_points(rules, conditions, terms), all_clauses(rules, conditions, terms)
            except TooLarge:
                continue
            word, values = solve(len(made), list(rows))
            if word == "values":
                world = world_of_values(rules, made, values)
                self.assertIs(keeps_rules(world, rules), True)
                self.assertTrue(all(holds(world, condition) for condition in conditions))
                told = [min(1, max(0, value)) if point[0] in ("flag", "and", "or") else value
                        for point, value in zip(made, values)]
                self.assertEqual(list(values_of(made, world)), told)
