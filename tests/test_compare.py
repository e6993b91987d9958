"""[9.10], and the section diesnon/compare.py of the interface."""

import random
import unittest

from diesnon.allcases import always, world_of
from diesnon.books import check_history
from diesnon.compare import alike, latest_behind, likeness, never_called
from diesnon.decide import check
from diesnon.errors import Missing, Never, NotAllowed, TooLarge
from diesnon.worlds import keeps_rules
from tests.cases import RULES, Walk, case_condition, names_of, some_book, some_history
from tests.pictures import chain_of_days

YES, NO = ("yes",), ("not", ("yes",))
SERVED, REPLY = ("day", "served"), ("day", "reply")
COURT = (("court", 2, "", ()),)
EVENTS = ("served", "reply")
DUE = ("next", "court", ("plus", SERVED, 3))
FIRST = ("answer", "served", YES, DUE, "reply")
SECOND = ("default", "answer", YES, ("plus", ("day", "answer"), 2), "")
BOOK = (COURT, EVENTS, (FIRST, SECOND))


def book_with(*rules, calendars=COURT, events=EVENTS):
    return (calendars, events, rules)


def reworded(dice, node):
    """A node that says the same in other words, or perhaps something a little different."""
    if not isinstance(node, tuple):
        return node
    node = tuple(reworded(dice, part) for part in node)
    if dice.random() < 0.5:
        return node
    if node[0] == "and":
        return ("and", node[2], node[1])
    if node[0] == "or":
        return ("not", ("and", ("not", node[1]), ("not", node[2])))
    if node[0] == "later":
        return ("if", ("le", node[1], node[2]), node[2], node[1])
    if node[0] == "next":
        return ("nth", node[1], ("plus", node[2], -1), 1)
    if node[0] == "plus" and dice.random() < 0.3:
        return ("plus", node[1], node[2] + 1)
    return node


class Alike(unittest.TestCase):
    def check(self, book, other):
        told = alike(book, other)
        if told[0] == "alike":
            self.assertEqual([name for name, _ in told[1]], [rule[0] for rule in book[2]])
            self.assertTrue(all(check(likeness(book, other, name), paper) for name, paper in told[1]))
            return told
        word, name, history = told
        self.assertEqual(word, "apart")
        self.assertIsNone(check_history(book, history))
        self.assertTrue(keeps_rules(world_of(book, history), book[0]))
        one, two = self.outcome(book, history, name), self.outcome(other, history, name)
        self.assertNotEqual((one[1], one[2], one[4]), (two[1], two[2], two[4]))
        return told

    def outcome(self, book, history, name):
        return next(told for told in Walk(book, history).outcomes if told[0] == name)

    def test_told(self):
        nth = ("nth", "court", ("plus", SERVED, 2), 1)
        for rule, told in (
            (FIRST, "alike"), (("answer", "served", YES, nth, "reply"), "alike"),
            (("answer", "served", ("filed", "served"), DUE, "reply"), "alike"),
            (("answer", "served", YES, ("earlier", DUE, ("plus", SERVED, 5)), "reply"), "alike"),
            (("answer", "served", YES, ("earlier", DUE, ("plus", SERVED, 4)), "reply"), "apart"),
            (("answer", "served", YES, DUE, ""), "apart"), (("answer", "served", YES, DUE, "served"), "apart"),
            (("answer", "reply", YES, DUE, "reply"), "apart"), (("answer", "served", ("filed", "reply"), DUE, "reply"), "apart"),
            (("answer", "served", ("not", ("le", REPLY, ("plus", SERVED, -9))), DUE, "reply"), "apart"),
        ):
            self.assertEqual(self.check(book_with(FIRST), book_with(rule))[0], told)
            self.assertEqual(self.check(book_with(rule), book_with(FIRST))[0], told)

    def test_only_one_thing_differs(self):
        # Called alike and with the same due day, but missed differently, and so on.
        book, other = book_with(FIRST), book_with(FIRST[:4] + ("",))
        _, _, history = self.check(book, other)
        self.assertEqual(self.outcome(book, history, "answer")[1:3], self.outcome(other, history, "answer")[1:3])
        met = ("answer", "served", YES, ("plus", SERVED, 1), "served")
        other = ("answer", "served", YES, ("plus", SERVED, 2), "served")
        self.assertEqual(self.check(book_with(met), book_with(other))[:2], ("apart", "answer"))

    def test_order_of_rules(self):
        third = ("bond", "served", YES, SERVED, "")
        told = self.check(book_with(FIRST, third, SECOND), book_with(third, FIRST, SECOND))
        self.assertEqual([name for name, _ in told[1]], ["answer", "bond", "default"])
        changed = ("default", "answer", YES, ("plus", ("day", "answer"), 3), "")
        self.assertEqual(self.check(book_with(FIRST, SECOND), book_with(FIRST, changed))[:2], ("apart", "default"))
        # In no history does the calendar keep its rule.
        shut = (("court", 1, "", (0, 1, ((0, 1),))),)
        self.assertEqual(self.check(book_with(FIRST, calendars=shut), book_with(FIRST[:4] + ("",), calendars=shut))[0], "alike")

    def test_not_comparable(self):
        others = (
            book_with(FIRST), book_with(FIRST, SECOND, ("bond", "served", YES, SERVED, "")),
            book_with(FIRST, ("late", *SECOND[1:])), book_with(FIRST, SECOND, events=("reply", "served")),
            book_with(FIRST, SECOND, events=("served", "reply", "bond")), book_with(FIRST, SECOND, calendars=(("court", 3, "", ()),)),
            book_with(FIRST, SECOND, calendars=(*COURT, ("bank", 0, "", ()))),
        )
        for other in others:
            for one, two in ((BOOK, other), (other, BOOK)):
                for call in (alike, lambda one, two: likeness(one, two, "answer"), lambda one, two: likeness(one, two, "x")):
                    with self.assertRaises(NotAllowed):
                        call(one, two)
        two = (("court", 0, "", ()), ("bank", 0, "", ()))
        with self.assertRaises(NotAllowed):
            alike(book_with(FIRST, calendars=two), book_with(FIRST, calendars=two[::-1]))

    def test_likeness(self):
        other = book_with(("answer", "reply", YES, REPLY, ""), SECOND)
        called, missed = ("and", ("flag", "served"), ("flag", "served")), ("flag", "reply")
        late = ("and", called, ("not", ("and", ("flag", "reply"), ("le", REPLY, DUE))))
        again = ("and", missed, missed)

        def same(a, b):
            return ("or", ("and", a, b), ("and", ("not", a), ("not", b)))

        claim = ("and", ("and", same(called, again),
                         ("or", ("not", called), ("and", ("le", DUE, REPLY), ("le", REPLY, DUE)))), same(late, again))
        self.assertEqual(likeness(BOOK, other, "answer"), (COURT, (), claim))
        self.assertEqual(likeness(BOOK, BOOK, "default")[:2], (COURT, ()))
        for name in ("x", "served", "court"):
            with self.assertRaises(Missing) as caught:
                likeness(BOOK, BOOK, name)
            self.assertEqual(caught.exception.name, name)

    def test_too_large(self):
        far = ("far", "served", YES, chain_of(81), "")
        for one, two in ((book_with(FIRST, far), book_with(FIRST, far)), (book_with(FIRST, far), book_with(FIRST[:4] + ("",), far))):
            with self.assertRaises(TooLarge):
                alike(one, two)

    def test_random(self):
        dice = random.Random(96)
        counts = {}
        for _ in range(120):
            book = some_book(dice, dice.randint(1, 3), dice.randint(1, 4), dice.randint(1, 4))
            rules = tuple((name, on, reworded(dice, when), reworded(dice, due), met) for name, on, when, due, met in book[2])
            try:
                told = self.check(book, (book[0], book[1], rules))[0]
            except TooLarge:
                continue
            counts[told] = counts.get(told, 0) + 1
            if told == "alike":
                for _ in range(10):
                    history = some_history(dice, book)
                    if keeps_rules(world_of(book, history), book[0]):
                        for name in RULES[:len(rules)]:
                            one, two = self.outcome(book, history, name), self.outcome((*book[:2], rules), history, name)
                            self.assertEqual((one[1], one[2], one[4]), (two[1], two[2], two[4]))
        self.assertGreater(min(counts.values()), 20)


def chain_of(count):
    """A term whose picture alone has this many points."""
    def moved(term):
        return SERVED if term[0] == "day" else ("plus", moved(term[1]), term[2])

    return moved(chain_of_days(count))


class Uncalled(unittest.TestCase):
    def test_told(self):
        never = ("never", "served", ("le", ("plus", SERVED, 1), SERVED), SERVED, "")
        none = ("none", "never", YES, SERVED, "")
        late = ("late", "answer", ("le", ("plus", ("day", "answer"), -1), REPLY), SERVED, "")
        for rules, told in (
            ((FIRST, SECOND), []), ((FIRST, never, none), ["never", "none"]), ((never, FIRST, none), ["never", "none"]),
            ((FIRST, late), []), ((FIRST, ("late", "answer", ("le", REPLY, ("due", "answer")), SERVED, "")), ["late"]),
            ((FIRST[:4] + ("served",), SECOND), ["default"]),
        ):
            self.assertEqual(never_called(book_with(*rules)), told)
        shut = (("court", 1, "", (0, 1, ((0, 1),))),)
        self.assertEqual(never_called(book_with(FIRST, SECOND, calendars=shut)), ["answer", "default"])
        with self.assertRaises(TooLarge):
            never_called(book_with(FIRST, ("far", "served", ("le", SERVED, chain_of(82)), SERVED, "")))
        # A due day of many points does not matter here.
        self.assertEqual(never_called(book_with(("far", "served", YES, chain_of(90), ""))), [])

    def test_random(self):
        dice = random.Random(97)
        found = 0
        for _ in range(80):
            book = some_book(dice, 2, dice.randint(1, 3), dice.randint(1, 4), depth=3)
            try:
                told = never_called(book)
            except TooLarge:
                continue
            found += len(told)
            for name in [rule[0] for rule in book[2]]:
                word, _ = always(book, (), ("not", ("called", name)))
                self.assertEqual(word == "paper", name in told)
            for _ in range(10):
                history = some_history(dice, book)
                if keeps_rules(world_of(book, history), book[0]):
                    self.assertFalse(any(name in told and called for name, called, *_ in Walk(book, history).outcomes))
        self.assertGreater(found, 10)


class Latest(unittest.TestCase):
    def check(self, book, assumptions, name, other):
        told = latest_behind(book, assumptions, name, other)
        if told[0] == "most":
            walk = Walk(book, told[2])
            self.assertIsNone(check_history(book, told[2]))
            self.assertTrue(keeps_rules(world_of(book, told[2]), book[0]))
            self.assertTrue(all(walk.holds(condition) for condition in assumptions))
            self.assertEqual(walk.due[name] - walk.due[other], told[1])
            return told[1]
        self.assertEqual(told, ("endless",))
        return "endless"

    def test_told(self):
        far = ("far", "reply", YES, REPLY, "")
        book = book_with(FIRST, SECOND, far)
        for assumptions, name, other, told in (
            ((), "default", "answer", 3), ((), "answer", "default", -3), ((), "answer", "answer", 0),
            ((), "far", "answer", "endless"), ((), "answer", "far", "endless"),
            ((("le", REPLY, ("plus", SERVED, 9)),), "far", "answer", 6), ([("missed", "answer")], "answer", "far", -1),
            ((("missed", "answer"), ("le", SERVED, SERVED)), "answer", "far", -1),
        ):
            self.assertEqual(self.check(book, assumptions, name, other), told)

    def test_errors(self):
        for name, other, told in (("x", "y", "x"), ("answer", "y", "y"), ("x", "answer", "x"), ("served", "x", "served")):
            with self.assertRaises(Missing) as caught:
                latest_behind(BOOK, (), name, other)
            self.assertEqual(caught.exception.name, told)
        for assumptions in ((NO,), (("not", ("called", "answer")),), (("le", REPLY, ("due", "answer")),)):
            with self.assertRaises(Never):
                latest_behind(BOOK, assumptions, "default", "answer")
        large = book_with(FIRST, ("far", "served", YES, chain_of(81), ""))
        for assumptions in ((), (NO,)):
            with self.assertRaises(TooLarge):
                latest_behind(large, assumptions, "far", "answer")

    def test_random(self):
        dice = random.Random(98)
        counts = {}
        for _ in range(120):
            book = some_book(dice, 2, dice.randint(1, 3), dice.randint(2, 4))
            names = [rule[0] for rule in book[2]]
            name, other = dice.choice(names), dice.choice(names)
            assumptions = tuple(case_condition(dice, 2, *names_of(book)) for _ in range(dice.randint(0, 1)))
            try:
                told = self.check(book, assumptions, name, other)
            except (Never, TooLarge) as error:
                told = type(error).__name__
            kind = "most" if isinstance(told, int) else told
            counts[kind] = counts.get(kind, 0) + 1
            for _ in range(10):
                history = some_history(dice, book)
                walk = Walk(book, history)
                if (name in walk.due and other in walk.due and keeps_rules(world_of(book, history), book[0])
                        and all(walk.holds(part) for part in assumptions)):
                    self.assertNotEqual(told, "Never")
                    if isinstance(told, int):
                        self.assertLessEqual(walk.due[name] - walk.due[other], told)
        self.assertGreater(min(counts["most"], counts["endless"], counts["Never"]), 10)
