"""[9.7] to [9.9], and the section diesnon/allcases.py of the interface."""

import random
import unittest

from diesnon.allcases import always, history_of, plain_condition, plain_term, presence, question_of, world_of
from diesnon.books import case_holds, case_value, check_book, check_history
from diesnon.decide import check
from diesnon.errors import Missing, TooLarge
from diesnon.meaning import answers, holds, value
from diesnon.terms import size_of
from diesnon.worlds import is_world, keeps_rules, set_calendar, set_day, set_flag
from tests.cases import EVENTS, Walk, case_condition, case_term, names_of, some_book, some_history
from tests.pictures import chain_of_days

YES = ("yes",)
SERVED, REPLY = ("day", "served"), ("day", "reply")
IS_SERVED, IS_REPLY = ("flag", "served"), ("flag", "reply")
COURT = (("court", 2, "", ()),)
DUE = ("next", "court", ("plus", SERVED, 3))
FIRST = ("answer", "served", YES, DUE, "reply")
SECOND = ("default", "answer", ("filed", "reply"), ("plus", ("day", "answer"), 2), "")
BOOK = (COURT, ("served", "reply"), (FIRST, SECOND))
CALLED = ("and", IS_SERVED, IS_SERVED)
MISSED = ("and", CALLED, ("not", ("and", IS_REPLY, ("le", REPLY, DUE))))
LATER = ("and", ("and", MISSED, IS_REPLY), MISSED)


class Plain:
    """The plain forms of [9.8], each time made anew."""

    def __init__(self, book):
        self.events = book[1]
        self.rules = {rule[0]: rule for rule in book[2]}

    def join(self, conditions):
        left = [condition for condition in conditions if condition != YES]
        if not left:
            return YES
        while len(left) > 1:
            left[:2] = [("and", left[0], left[1])]
        return left[0]

    def happens(self, name):
        return ("flag", name) if name in self.events else self.missed(name)

    def pairs(self, node):
        if node[0] in ("day", "due"):
            return {node}
        return {pair for part in node if isinstance(part, tuple) for pair in self.pairs(part)}

    def presence(self, node):
        return self.join([self.happens(name) if word == "day" else self.called(name)
                          for word, name in sorted(self.pairs(node))])

    def plain(self, node):
        word = node[0]
        if word == "day":
            return node if node[1] in self.events else ("plus", self.due(node[1]), 1)
        table = {"due": self.due, "filed": self.happens, "called": self.called, "missed": self.missed}
        if word in table:
            return table[word](node[1])
        made = tuple(self.plain(part) if isinstance(part, tuple) else part for part in node)
        return self.join([self.presence(node), made]) if word in ("le", "is") else made

    def called(self, name):
        _, on, when, due, _ = self.rules[name]
        return self.join([self.happens(on), self.plain(when), self.presence(due)])

    def due(self, name):
        return self.plain(self.rules[name][3])

    def missed(self, name):
        met = self.rules[name][4]
        if met == "":
            return self.called(name)
        in_time = ("and", ("flag", met), ("le", ("day", met), self.due(name)))
        return self.join([self.called(name), ("not", in_time)])


class Worlds(unittest.TestCase):
    def test_told(self):
        history = ((("court", ((5, 6),)),), (("reply", 10 ** 30),))
        world = (history[0], (("reply", 10 ** 30), ("served", 0)), (("reply", True), ("served", False)))
        self.assertEqual(world_of(BOOK, history), world)
        self.assertEqual(history_of(BOOK, world), history)
        more = set_flag(set_day(set_calendar(world, "bank", ()), "x", 3), "late", True)
        self.assertEqual(history_of(BOOK, more), history)
        self.assertEqual(history_of(BOOK, set_day(world, "served", 7)), history)
        self.assertEqual(history_of(BOOK, set_flag(world, "served", True))[1], (("reply", 10 ** 30), ("served", 0)))

    def test_missing(self):
        two = ((("court", 0, "", ()), ("bank", 0, "", ())), ("served", "reply"), (FIRST,))
        calendars, days, flags = (("bank", ()), ("court", ())), (("reply", 1), ("served", 2)), (("reply", True), ("served", False))
        self.assertEqual(history_of(two, (calendars, days, flags)), (calendars, (("reply", 1),)))
        for world, name in (
            (((), (), ()), "bank"), ((calendars[:1], (), ()), "court"), ((calendars, (), ()), "reply"),
            ((calendars, days[1:], flags), "reply"), ((calendars, days[:1], flags[1:]), "reply"),
            ((calendars, days[:1], flags), "served"), ((calendars, days, flags[:1]), "served"),
            ((calendars, days, flags[1:]), "reply"), ((calendars[1:], (), ()), "bank"),
        ):
            with self.assertRaises(Missing) as caught:
                history_of(two, world)
            self.assertEqual(caught.exception.name, name)
        # The day comes before the flag of the same event, and after both of an earlier one.
        with self.assertRaises(Missing) as caught:
            history_of((two[0], ("a", "b"), ()), (calendars, (("a", 1),), (("b", True),)))
        self.assertEqual(caught.exception.name, "a")

    def test_random(self):
        dice = random.Random(93)
        for _ in range(100):
            book = some_book(dice, dice.randint(0, 3), dice.randint(1, 4), 2)
            history = some_history(dice, book)
            world = world_of(book, history)
            self.assertTrue(is_world(world))
            self.assertEqual([name for name, _ in world[1]], sorted(book[1]))
            self.assertEqual(history_of(book, world), history)


class Forms(unittest.TestCase):
    def test_told(self):
        for condition, told in (
            (YES, YES), (("filed", "served"), IS_SERVED), (("called", "answer"), CALLED), (("missed", "answer"), MISSED),
            (("called", "default"), LATER), (("missed", "default"), LATER), (("not", YES), ("not", YES)),
            (("and", YES, ("filed", "reply")), ("and", YES, IS_REPLY)), (("le", ("at", 3), ("at", 4)), ("le", ("at", 3), ("at", 4))),
            (("le", SERVED, ("at", 4)), ("and", IS_SERVED, ("le", SERVED, ("at", 4)))),
            (("is", "court", ("due", "answer")), ("and", CALLED, ("is", "court", DUE))),
            (("le", ("day", "answer"), ("later", REPLY, SERVED)),
             ("and", ("and", ("and", MISSED, IS_REPLY), IS_SERVED), ("le", ("plus", DUE, 1), ("later", REPLY, SERVED)))),
            (("le", ("due", "answer"), ("later", ("day", "answer"), SERVED)),
             ("and", ("and", ("and", MISSED, IS_SERVED), CALLED), ("le", DUE, ("later", ("plus", DUE, 1), SERVED)))),
        ):
            self.assertEqual(plain_condition(BOOK, condition), told)
        inner = ("if", ("le", REPLY, SERVED), ("due", "default"), SERVED)
        for term, there, told in (
            (SERVED, IS_SERVED, SERVED), (("at", 3), YES, ("at", 3)), (("due", "answer"), CALLED, DUE),
            (("day", "answer"), MISSED, ("plus", DUE, 1)), (("due", "default"), LATER, ("plus", ("plus", DUE, 1), 2)),
            (("if", ("called", "answer"), ("at", 1), ("at", 2)), YES, ("if", CALLED, ("at", 1), ("at", 2))),
            (inner, ("and", ("and", IS_REPLY, IS_SERVED), LATER),
             ("if", ("and", ("and", IS_REPLY, IS_SERVED), ("le", REPLY, SERVED)), ("plus", ("plus", DUE, 1), 2), SERVED)),
            (("later", SERVED, SERVED), IS_SERVED, ("later", SERVED, SERVED)),
        ):
            self.assertEqual((presence(BOOK, term), plain_term(BOOK, term)), (there, told))

    def test_random(self):
        dice = random.Random(94)
        for _ in range(150):
            book = some_book(dice, dice.randint(0, 2), dice.randint(1, 3), dice.randint(1, 4), depth=2)
            plain = Plain(book)
            term, condition = case_term(dice, 3, *names_of(book)), case_condition(dice, 3, *names_of(book))
            self.assertEqual(plain_condition(book, condition), plain.plain(condition))
            self.assertEqual((presence(book, term), plain_term(book, term)), (plain.presence(term), plain.plain(term)))
            question = question_of(book, [condition, YES], condition)
            self.assertEqual(question, (book[0], (plain.plain(condition), YES), plain.plain(condition)))
            for _ in range(4):
                history = some_history(dice, book)
                world = world_of(book, history)
                for event in book[1]:
                    if dict(world[2])[event] is False and dice.random() < 0.7:
                        # The day of an event that is not filed makes no difference.
                        world = set_day(world, event, dice.randint(-99, 99))
                self.assertIs(holds(world, plain_condition(book, condition)), case_holds(book, history, condition))
                told = case_value(book, history, term)
                self.assertIs(holds(world, presence(book, term)), told is not None)
                if told is not None:
                    self.assertEqual(value(world, plain_term(book, term)), told)

    def test_large(self):
        # The question of a book may be larger than those of part 2.
        rules = [("r1", "served", YES, DUE, "reply")]
        for k in range(2, 5):
            name = f"r{k - 1}"
            when = ("and", ("called", name), ("le", ("due", name), ("day", name)))
            rules.append((f"r{k}", name, when, ("later", ("due", name), ("day", name)), "reply"))
        book = (COURT, ("served", "reply"), tuple(rules))
        check_book(book)
        question = question_of(book, (), ("not", ("called", "r4")))
        self.assertGreater(size_of(question[2]), 1000)
        self.assertEqual(always(book, (), ("not", ("called", "r4")))[0], "history")
        self.assertEqual(always(book, (("called", "r4"),), ("missed", "r3"))[0], "paper")


class Always(unittest.TestCase):
    def check(self, book, assumptions, claim):
        word, told = always(book, assumptions, claim)
        question = question_of(book, assumptions, claim)
        if word == "paper":
            self.assertIs(check(question, told), True)
            return word
        self.assertEqual(word, "history")
        self.assertIsNone(check_history(book, told))
        world = world_of(book, told)
        self.assertTrue(keeps_rules(world, book[0]) and answers(world, question))
        walk = Walk(book, told)
        self.assertTrue(all(walk.holds(condition) for condition in assumptions))
        self.assertFalse(walk.holds(claim))
        return word

    def test_told(self):
        late = ("le", ("plus", ("due", "answer"), 1), REPLY)
        for assumptions, claim, told in (
            ((), YES, "paper"), ((), ("not", YES), "history"), ([("not", YES)], ("not", YES), "paper"),
            ((("filed", "served"),), ("called", "answer"), "paper"), ((), ("called", "answer"), "history"),
            ([("missed", "answer"), ("filed", "reply")], late, "paper"), ((("missed", "answer"),), late, "history"),
            ((("called", "default"),), ("le", ("plus", ("due", "answer"), 3), ("due", "default")), "paper"),
            ((("called", "default"),), ("le", ("plus", ("due", "answer"), 4), ("due", "default")), "history"),
            ((("called", "answer"),), ("le", ("due", "answer"), ("plus", SERVED, 5)), "paper"),
            ((("called", "answer"),), ("le", ("due", "answer"), ("plus", SERVED, 4)), "history"),
            ((("not", ("filed", "reply")), ("le", REPLY, REPLY)), ("not", YES), "paper"),
        ):
            self.assertEqual(self.check(BOOK, assumptions, claim), told)

    def test_too_large(self):
        far = ("le", with_served(chain_of_days(82)), SERVED)
        for assumptions, claim in (((), far), ((far,), YES)):
            with self.assertRaises(TooLarge):
                always(BOOK, assumptions, claim)

    def test_no_calendars_and_runs(self):
        for calendars in (((("court", 0, "", (0, 1, ((0, 0),))), ("bank", 0, "court", (0, 1, ())))),
                          (("court", 1, "", (0, 1, ((0, 1),))),)):
            self.assertEqual(always((calendars, ("served",), (("a", "served", YES, SERVED, ""),)), (), ("not", YES))[0], "paper")

    def test_random(self):
        dice = random.Random(95)
        counts = {}
        for _ in range(250):
            book = some_book(dice, dice.randint(1, 3), dice.randint(1, 4), dice.randint(1, 4), depth=dice.choice((2, 2, 3)))
            assumptions = [case_condition(dice, 2, *names_of(book)) for _ in range(dice.randint(0, 2))]
            claim = case_condition(dice, 3, *names_of(book))
            try:
                told = self.check(book, assumptions, claim)
            except TooLarge:
                told = "large"
            counts[told] = counts.get(told, 0) + 1
            if told == "paper":
                for _ in range(20):
                    history = some_history(dice, book)
                    walk = Walk(book, history)
                    if keeps_rules(world_of(book, history), book[0]) and all(walk.holds(part) for part in assumptions):
                        self.assertTrue(walk.holds(claim))
        self.assertGreater(min(counts["paper"], counts["history"]), 50)
        self.assertLess(counts.get("large", 0), 10)

    def test_spelt_out(self):
        # Each part of the world of a question may be lacking if the question does not name it.
        book = (COURT, EVENTS, (FIRST[:4] + ("",),))
        word, history = always(book, (), ("not", ("filed", "bond")))
        self.assertEqual((word, [event for event, _ in history[1]]), ("history", ["bond"]))
        self.assertEqual(self.check(book, (), ("not", YES)), "history")


def with_served(term):
    return SERVED if term[0] == "day" else ("plus", with_served(term[1]), term[2])
