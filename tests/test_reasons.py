"""[8.4] to [8.8], and the section diesnon/reasons.py of the interface."""

import itertools
import random
import unittest

from diesnon.decide import decide
from diesnon.errors import Missing, NotAllowed, TooLarge
from diesnon.meaning import holds, value
from diesnon.reasons import (
    MAX_CHOSEN, MAX_FACTS, agrees, all_reasons, condition_of, explains, looks, parted, reason,
)
from diesnon.terms import check_condition
from diesnon.worlds import is_world, keeps_rules, set_day
from tests.pictures import (
    CALENDARS, chain_of_days, many_clauses, many_terms, small_condition, small_rules, small_term, some_world_for,
)

X, Y, Z = (("day", name) for name in "xyz")
WORLD = ((("bank", ((0, 0), (2, 3))), ("court", ((5, 6), (9, 9)))), (("x", 5), ("y", 2), ("z", -4)),
         (("f", True), ("g", False)))
NO_DAY = ("day", "w")
FREE = (("bank", 0, "", ()), ("court", 0, "", ()))


def plain_facts(world, node):
    """The facts of [8.5] as a set, and what the node means, found sentence by sentence."""
    closed = {name: {day for first, last in pairs for day in range(first, last + 1)} for name, pairs in world[0]}

    def days_of(calendar, days):
        return {("closed" if day in closed[calendar] else "open", calendar, day) for day in days}

    word = node[0]
    if word == "day":
        worth = dict(world[1])[node[1]]
        return {("day", node[1], worth)}, worth
    if word == "flag":
        worth = dict(world[2])[node[1]]
        return {("flag", node[1], worth)}, worth
    if word in ("at", "yes"):
        return set(), (node[1] if word == "at" else True)
    if word == "plus":
        facts, worth = plain_facts(world, node[1])
        return facts, worth + node[2]
    if word in ("next", "prev", "nth", "is"):
        facts, begin = plain_facts(world, node[2])
        if word == "is":
            return facts | days_of(node[1], [begin]), begin not in closed[node[1]]
        day, step = begin, -1 if word == "prev" or word == "nth" and node[3] < 0 else 1
        left = abs(node[3]) if word == "nth" else 1
        if word == "nth":
            day += step
        seen = [day]
        while True:
            left -= day not in closed[node[1]]
            if not left:
                return facts | days_of(node[1], seen), day
            day += step
            seen.append(day)
    parts = [plain_facts(world, part) for part in node[1:]]
    facts, told = [part[0] for part in parts], [part[1] for part in parts]
    if word == "if":
        return facts[0] | (facts[1] if told[0] else facts[2]), told[1] if told[0] else told[2]
    if word == "not":
        return facts[0], not told[0]
    if word in ("and", "or"):
        enough = not told[0] if word == "and" else told[0]
        return facts[0] | (set() if enough else facts[1]), (told[0] and told[1] if word == "and" else told[0] or told[1])
    worth = {"later": max(told), "earlier": min(told), "le": told[0] <= told[1]}[word]
    return facts[0] | facts[1], worth


def explains_by_question(rules, world, term, facts):
    worth = value(world, term)
    same = ("and", ("le", term, ("at", worth)), ("le", ("at", worth), term))
    return decide((rules, tuple(condition_of(fact) for fact in facts), same))[0] == "paper"


class Facts(unittest.TestCase):
    FACTS = (
        (("day", "x", 5), True), (("day", "x", 6), False), (("day", "z", -4), True), (("day", "z", 4), False),
        (("flag", "f", True), True), (("flag", "f", False), False), (("flag", "g", False), True),
        (("flag", "g", True), False), (("open", "court", 4), True), (("open", "court", 5), False),
        (("closed", "court", 5), True), (("closed", "court", 4), False), (("closed", "court", 6), True),
        (("open", "court", 7), True), (("open", "bank", -10 ** 6), True), (("closed", "bank", 10 ** 6), False),
    )

    def test_agrees_and_conditions(self):
        for fact, told in self.FACTS:
            self.assertIs(agrees(WORLD, fact), told)
            check_condition(condition_of(fact))
            self.assertIs(holds(WORLD, condition_of(fact)), told)

    def test_missing(self):
        for fact in (("day", "f", 5), ("day", "court", 5), ("flag", "x", True), ("open", "x", 5), ("closed", "f", 5)):
            with self.assertRaises(Missing) as caught:
                agrees(WORLD, fact)
            self.assertEqual(caught.exception.name, fact[1])

    def test_numbers(self):
        far = 10 ** 6
        for number in (far + 1, -far - 1, 10 ** 30):
            self.assertIs(agrees(WORLD, ("day", "x", number)), False)
            self.assertIs(agrees(set_day(WORLD, "x", number), ("day", "x", number)), True)
            self.assertIs(agrees(WORLD, ("open", "court", number)), True)
            for word, name in (("day", "x"), ("open", "court"), ("closed", "court")):
                with self.assertRaises(TooLarge):
                    condition_of((word, name, number))
        for number in (far, -far):
            self.assertIs(holds(WORLD, condition_of(("open", "court", number))), True)
            self.assertIs(holds(set_day(WORLD, "x", number), condition_of(("day", "x", number))), True)


class Looks(unittest.TestCase):
    def test_kinds(self):
        x, y, z = ("day", "x", 5), ("day", "y", 2), ("day", "z", -4)
        late = ("if", ("le", X, Y), ("next", "bank", Y), ("plus", Z, 2))
        for term, told in (
            (X, [x]), (("at", 7), []), (("plus", X, 3), [x]), (("later", X, Y), [x, y]), (("earlier", Y, X), [x, y]),
            (("next", "court", X), [("closed", "court", 5), ("closed", "court", 6), x, ("open", "court", 7)]),
            (("next", "court", Y), [y, ("open", "court", 2)]), (("prev", "court", Y), [y, ("open", "court", 2)]),
            (("prev", "court", X), [("closed", "court", 5), x, ("open", "court", 4)]),
            (("nth", "court", X, 1), [("closed", "court", 6), x, ("open", "court", 7)]),
            (("nth", "court", X, 3),
             [("closed", "court", 6), ("closed", "court", 9), x] + [("open", "court", day) for day in (7, 8, 10)]),
            (("nth", "court", X, -2), [x, ("open", "court", 3), ("open", "court", 4)]),
            (("nth", "bank", Y, -1), [y, ("open", "bank", 1)]),
            (late, [x, y, z]), (("if", ("le", Y, X), X, Z), [x, y]),
            (("if", ("is", "court", X), X, ("at", 1)), [("closed", "court", 5), x]),
            (("if", ("flag", "f"), Y, X), [y, ("flag", "f", True)]), (("if", ("yes",), Y, X), [y]),
            (("if", ("not", ("flag", "g")), Y, X), [y, ("flag", "g", False)]),
            (("if", ("and", ("flag", "f"), ("flag", "g")), Y, X), [x, ("flag", "f", True), ("flag", "g", False)]),
            (("if", ("and", ("flag", "g"), ("flag", "f")), Y, X), [x, ("flag", "g", False)]),
            (("if", ("or", ("flag", "f"), ("flag", "g")), Y, X), [y, ("flag", "f", True)]),
            (("if", ("or", ("flag", "g"), ("flag", "f")), Y, X), [y, ("flag", "f", True), ("flag", "g", False)]),
            (("later", ("next", "court", X), ("prev", "court", X)),
             [("closed", "court", 5), ("closed", "court", 6), x, ("open", "court", 4), ("open", "court", 7)]),
        ):
            self.assertEqual(looks(WORLD, term), tuple(sorted(told)))

    def test_missing_names(self):
        for term, name in ((("if", ("yes",), X, NO_DAY), "w"), (("later", NO_DAY, ("day", "v")), "v"),
                           (("next", "mint", NO_DAY), "w"), (("if", ("flag", "h"), ("next", "mint", X), X), "mint"),
                           (("if", ("or", ("yes",), ("flag", "h")), X, X), "h")):
            for call in (looks, lambda world, term: reason((), world, term),
                         lambda world, term: all_reasons((), world, term),
                         lambda world, term: explains((("mint", 0, "", ()),), world, term, (("day", "u", 3),)),
                         lambda world, term: parted((("mint", 0, "", ()),), world, term, (("day", "u", 3),))):
                with self.assertRaises(Missing) as caught:
                    call(WORLD, term)
                self.assertEqual(caught.exception.name, name)

    def test_forty_and_forty_one(self):
        self.assertEqual(MAX_FACTS, 40)
        term = ("later", ("next", "a", X), ("later", ("next", "b", X), ("next", "c", X)))
        for shut, count in ((12, 40), (13, None)):
            world = ((("a", ((1, 12),)), ("b", ((1, 12),)), ("c", ((1, shut),))), (("x", 1),), ())
            if count:
                self.assertEqual(len(looks(world, term)), count)
                told = reason((), world, term)
                self.assertEqual(len([fact for fact in told if fact[0] == "open"]), 3)
                self.assertTrue(explains((), world, term, told) and all(parted((), world, term, told)))
                self.assertIs(explains((), world, term, looks(world, term)), True)
                rules = tuple((name, 0, "", (1, 13, ((1, 12),))) for name in "abc")
                self.assertEqual(reason(rules, world, term), (("day", "x", 1),))
            else:
                for call in (looks, lambda world, term: reason((), world, term)):
                    with self.assertRaises(TooLarge):
                        call(world, term)
        for shut, count in ((38, 40), (39, None), (400, None), (10 ** 40, None)):
            world = ((("c", ((1, shut),)),), (("x", 1),), ())
            if count:
                self.assertEqual(len(looks(world, ("next", "c", X))), count)
            else:
                with self.assertRaises(TooLarge):
                    looks(world, ("next", "c", X))
        # Where the value is small there may still be far too many days.
        world = ((("c", ((1, 10 ** 40),)),), (("x", 1),), ())
        with self.assertRaises(TooLarge):
            looks(world, ("if", ("le", ("next", "c", X), X), X, ("at", 0)))
        # Facts that one looks at twice count once.
        world = ((("c", ((1, 38),)),), (("x", 1),), ())
        self.assertEqual(len(looks(world, ("later", ("next", "c", X), ("next", "c", ("plus", X, 3))))), 40)
        days = tuple(sorted((f"d{k}", 3) for k in range(41)))
        for count in (40, 41):
            term = ("day", "d0")
            for k in range(1, count):
                term = ("later", term, ("day", f"d{k}"))
            if count == 40:
                self.assertEqual(len(looks(((), days, ()), term)), 40)
            else:
                with self.assertRaises(TooLarge):
                    looks(((), days, ()), term)
        flags = tuple(sorted((f"f{k}", True) for k in range(41)))
        condition = ("flag", "f0")
        for k in range(1, 41):
            condition = ("and", condition, ("flag", f"f{k}"))
            self.assertEqual(len(looks(((), (), flags), ("if", condition, ("at", 1), ("at", 2)))) if k < 40 else 41, k + 1)
        with self.assertRaises(TooLarge):
            looks(((), (), flags), ("if", condition, ("at", 1), ("at", 2)))

    def test_numbers(self):
        far = 10 ** 6
        for term in (("next", "court", ("plus", X, far)), ("plus", X, far), ("if", ("is", "court", ("plus", X, far)), X, X),
                     ("plus", ("next", "court", ("plus", X, far)), -9), ("prev", "court", ("plus", X, -far - 9))):
            for call in (looks, lambda world, term: reason((), world, term),
                         lambda world, term: all_reasons((), world, term)):
                with self.assertRaises(TooLarge):
                    call(WORLD, term)
        self.assertEqual(looks(WORLD, ("plus", X, far - 5)), (("day", "x", 5),))
        self.assertEqual(looks(WORLD, ("plus", ("plus", X, far), -6)), (("day", "x", 5),))
        self.assertEqual(reason((), WORLD, ("next", "court", ("plus", X, far - 5))),
                         (("day", "x", 5), ("open", "court", far)))
        distant = set_day(WORLD, "x", far + 1)
        for call in (looks, lambda world, term: reason((), world, term), lambda world, term: explains((), world, term, ()),
                     lambda world, term: parted((), world, term, ())):
            with self.assertRaises(TooLarge):
                call(distant, X)
        with self.assertRaises(TooLarge):
            looks(distant, ("plus", X, -9))
        # Here no fact at which one looks counts, only the value and the facts that are told.
        self.assertIs(explains((), distant, ("plus", X, -9), ()), False)
        with self.assertRaises(TooLarge):
            explains((), distant, ("plus", X, -9), (("day", "x", far + 1),))
        with self.assertRaises(TooLarge):
            parted((), WORLD, X, (("open", "court", far + 1),))

    def test_random(self):
        dice = random.Random(81)
        for _ in range(400):
            term = small_term(dice, dice.randint(1, 5))
            world = some_world_for(dice, (), [term])
            facts, worth = plain_facts(world, term)
            self.assertEqual(value(world, term), worth)
            if len(facts) <= 40:
                told = looks(world, term)
                self.assertEqual(told, tuple(sorted(facts)))
                self.assertTrue(all(agrees(world, fact) for fact in told))


class Reasons(unittest.TestCase):
    def test_told(self):
        term = ("next", "court", X)
        world = ((("court", ((5, 6),)),), (("x", 5),), ())
        known = (("court", 0, "", (0, 9, ((5, 6),))),)
        self.assertEqual(reason(known, world, term), (("day", "x", 5),))
        self.assertEqual(reason(known, world, ("next", "court", ("at", 5))), ())
        self.assertEqual(all_reasons(known, world, ("next", "court", ("at", 5))), ((),))
        self.assertEqual(all_reasons((), world, ("at", 3)), ((),))
        self.assertEqual(all_reasons((), world, ("plus", X, -5)), ((("day", "x", 5),),))
        both = ((), (("x", 5), ("y", 5)), (("f", True), ("g", True)))
        self.assertEqual(all_reasons((), both, ("if", ("or", ("flag", "f"), ("flag", "g")), X, Y)),
                         ((("day", "x", 5), ("flag", "f", True)),))
        # One looks at the second day only where the first one does not tell enough.
        self.assertEqual(all_reasons((), both, ("later", ("earlier", X, ("at", 5)), ("earlier", Y, ("at", 5)))),
                         ((("day", "x", 5),), (("day", "y", 5),)))
        within = (("bank", 0, "", (0, 9, ((5, 6),))), ("court", 2, "bank", ()))
        shared = ((("bank", ((5, 6),)), ("court", ((5, 6),))), (("x", 5),), ())
        self.assertEqual(reason(within, shared, term), (("day", "x", 5),))

    def test_explains(self):
        term = ("next", "court", X)
        world = ((("court", ((5, 6),)),), (("x", 5),), (("f", True),))
        facts = looks(world, term)
        self.assertIs(explains((), world, term, facts), True)
        self.assertIs(explains((), world, term, facts + (("open", "court", 99),)), True)
        for fact in facts:
            self.assertIs(explains((), world, term, tuple(other for other in facts if other != fact)), False)
        self.assertIs(explains((), world, ("at", 3), ()), True)
        self.assertIs(explains((), world, ("if", ("flag", "f"), ("at", 3), ("at", 3)), ()), True)
        self.assertIs(explains((("court", 1, "", ()),), ((("court", ((5, 5),)),), (("x", 5),), ()), term,
                               (("closed", "court", 5), ("day", "x", 5))), True)

    def test_parted(self):
        term = ("next", "court", X)
        world = ((("court", ((5, 6),)), ("mint", ((2, 2),))), (("x", 5), ("y", 1)), (("f", True),))
        facts = tuple(sorted(looks(world, term) + (("day", "y", 1), ("flag", "f", True), ("closed", "mint", 2))))
        told = parted((), world, term, facts)
        self.assertEqual([other is None for other in told],
                         [fact[1] in ("y", "f", "mint") for fact in facts])
        # The set need not explain the value.
        others = parted((), world, term, (("closed", "court", 6), ("day", "y", 1)))
        self.assertTrue(agrees(others[0], ("day", "y", 1)) and agrees(others[1], ("closed", "court", 6)))
        for other in others:
            self.assertNotEqual(value(other, term), 7)
        self.assertEqual(parted((), world, term, ()), [])
        self.assertEqual(parted((), world, ("at", 3), (("day", "x", 5), ("flag", "f", True))), [None, None])

    def test_six_and_seven(self):
        self.assertEqual(MAX_CHOSEN, 6)
        for shut in (4, 5):
            world = ((("c", ((1, shut),)),), (("x", 1),), ())
            if shut == 4:
                self.assertEqual(all_reasons((), world, ("next", "c", X)), (looks(world, ("next", "c", X)),))
            else:
                self.assertEqual(len(reason((), world, ("next", "c", X))), 7)
                with self.assertRaises(TooLarge):
                    all_reasons((), world, ("next", "c", X))

    def test_many_reasons(self):
        days = tuple((name, 3) for name in "abcdef")
        term = ("at", 3)
        for name in "abcdef":
            term = ("later", term, ("earlier", ("day", name), ("at", 5)))
        self.assertEqual(len(all_reasons((), ((), days, ()), term)), 1)
        term = ("at", 0)
        for name in "abcdef":
            term = ("later", term, ("earlier", ("day", name), ("at", 3)))
        told = all_reasons((), ((), days, ()), term)
        self.assertEqual(told, tuple((("day", name, 3),) for name in "abcdef"))

    def test_wrong(self):
        rules = (("court", 1, "", ()),)
        calls = (lambda: explains(rules, WORLD, X, ()), lambda: parted(rules, WORLD, X, ()),
                 lambda: reason(rules, WORLD, X), lambda: all_reasons(rules, WORLD, X),
                 lambda: explains((), WORLD, X, (("day", "x", 4),)), lambda: parted((), WORLD, X, (("day", "x", 4),)),
                 lambda: explains((), WORLD, X, (("open", "court", 5), ("day", "x", 10 ** 7))))
        for call in calls:
            with self.assertRaises(NotAllowed):
                call()
        for call in (explains, parted):
            for rules, facts, name in (
                ((("mint", 0, "", ()),), (("day", "w", 3),), "mint"),
                ((("court", 1, "", ()), ("mint", 0, "", ())), (), "mint"),
                ((("court", 1, "", ()),), (("day", "w", 3),), "w"), ((), (("day", "x", 4), ("flag", "h", True)), "h"),
                ((), (("open", "mint", 4),), "mint"),
            ):
                with self.assertRaises(Missing) as caught:
                    call(rules, WORLD, X, facts)
                self.assertEqual(caught.exception.name, name)
        for call in (reason, all_reasons):
            with self.assertRaises(Missing) as caught:
                call((("court", 1, "", ()), ("mint", 0, "", ())), WORLD, X)
            self.assertEqual(caught.exception.name, "mint")

    def test_too_large(self):
        term = chain_of_days(81)
        for call in (lambda: explains((), WORLD, term, ()), lambda: parted((), WORLD, term, (("day", "x", 5),)),
                     lambda: reason((), WORLD, term), lambda: all_reasons((), WORLD, term)):
            with self.assertRaises(TooLarge):
                call()
        # The question whether so many days explain a value is too large, too.
        for count, good in ((39, True), (40, False)):
            world = ((("c", ((1, 40),)),), (), ())
            facts = tuple(("closed", "c", day) for day in range(1, count + 1))
            if good:
                self.assertIs(explains((), world, ("at", 1), facts), True)
                self.assertEqual(parted((), world, ("at", 1), facts), [None] * 39)
            else:
                for call in (explains, parted):
                    with self.assertRaises(TooLarge):
                        call((), world, ("at", 1), facts)
        with self.assertRaises(TooLarge):
            reason((), ((("c", ((1, 38),)),), (("x", 1),), ()), ("next", "c", X))
        for count, good in ((60, True), (72, False)):
            world = ((("c", ((count, count + 3),)),), (("x", 2),), ())
            term = ("next", "c", chain_of_days(count))
            if good:
                self.assertEqual(all_reasons((), world, term), (reason((), world, term),))
            else:
                for call in (reason, all_reasons):
                    with self.assertRaises(TooLarge):
                        call((), world, term)
        rules, (term, _) = many_clauses(200), many_terms()
        closed = rules[0][3][2]
        world = ((("c", closed),), (("x", 0),), ())
        with self.assertRaises(TooLarge):
            explains(rules, world, term, ())
        self.assertEqual(looks(WORLD, chain_of_days(81)), (("day", "x", 5),))
        self.assertEqual(reason((), WORLD, chain_of_days(78)), (("day", "x", 5),))

    def check(self, rules, world, term):
        facts, told = looks(world, term), reason(rules, world, term)
        self.assertLessEqual(set(told), set(facts))
        self.assertEqual(told, tuple(sorted(set(told))))
        for chosen in (facts, told):
            self.assertIs(explains(rules, world, term, chosen), True)
        worth = value(world, term)
        for fact, other in zip(told, parted(rules, world, term, told)):
            self.assertTrue(is_world(other) and keeps_rules(other, rules))
            self.assertTrue(all(agrees(other, kept) for kept in told if kept != fact))
            self.assertIs(agrees(other, fact), False)
            self.assertNotEqual(value(other, term), worth)
        return facts, told

    def test_random(self):
        dice = random.Random(82)
        counts = {}
        for _ in range(400):
            calendars = CALENDARS[:dice.randint(1, 3)]
            rules = small_rules(dice, calendars)
            term = small_term(dice, dice.randint(2, 4), calendars)
            world = some_world_for(dice, rules, [term])
            if not keeps_rules(world, rules):
                with self.assertRaises(NotAllowed):
                    reason(rules, world, term)
                continue
            facts, told = self.check(rules, world, term)
            some = tuple(fact for fact in facts if dice.random() < 0.7)
            self.assertIs(explains(rules, world, term, some), explains_by_question(rules, world, term, some))
            if len(facts) <= 6:
                every = all_reasons(rules, world, term)
                self.assertIn(told, every)
                sets = [chosen for size in range(7) for chosen in itertools.combinations(facts, size)]
                enough = [chosen for chosen in sets if explains(rules, world, term, chosen)]
                self.assertEqual(every, tuple(one for one in enough if not any(set(two) < set(one) for two in enough)))
            counts[len(told)] = counts.get(len(told), 0) + 1
        self.assertGreater(min(counts[size] for size in range(4)), 1)

    def test_conditions_in_terms(self):
        dice = random.Random(83)
        for _ in range(60):
            term = ("if", small_condition(dice, 3, CALENDARS[:2]), ("at", 1), ("at", 2))
            rules = small_rules(dice, CALENDARS[:2])
            world = some_world_for(dice, rules, [term])
            if keeps_rules(world, rules) and len(plain_facts(world, term)[0]) <= 40:
                self.check(rules, world, term)
