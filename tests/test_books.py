"""[9.1] to [9.6], and the section diesnon/books.py of the interface."""

import random
import unittest

from diesnon.books import (
    MAX_EVENTS, MAX_LEVEL, MAX_RULES, case_holds, case_value, check_book, check_case_condition, check_case_term,
    check_history, outcomes,
)
from diesnon.errors import NotAllowed, TooLarge
from tests.cases import Walk, case_condition, case_term, names_of, some_book, some_history
from tests.samples import chain, row, spoilt_nodes

YES = ("yes",)
COURT = (("court", 2, "", ()),)
SERVED = ("day", "served")
FIRST = ("answer", "served", YES, ("next", "court", ("plus", SERVED, 3)), "reply")
SECOND = ("default", "answer", ("missed", "answer"), ("plus", ("due", "answer"), 2), "")
BOOK = (COURT, ("served", "reply"), (FIRST, SECOND))
OPEN = (("court", ()),)


def book_with(rules, events=("served", "reply"), calendars=COURT):
    return (calendars, events, tuple(rules))


def levels(count):
    """A book of rules of which each one is on the one before it."""
    on = ["served", *[f"r{k}" for k in range(1, count)]]
    return book_with([(f"r{k}", on[k - 1], YES, ("day", on[k - 1]), "") for k in range(1, count + 1)])


class CheckBook(unittest.TestCase):
    def refused(self, book, error=NotAllowed):
        with self.assertRaises(error):
            check_book(book)

    def test_good(self):
        for book in (
            BOOK, book_with([FIRST]), book_with([FIRST], ("served", "reply", "court")), book_with([FIRST], calendars=COURT * 1),
            ((), ("a",), (("r", "a", YES, ("at", 0), ""),)), ((), ("a",), (("r", "a", YES, ("at", 0), "a"),)),
            # A rule may have the name of a calendar, too, which makes no level.
            book_with([("court", "served", YES, SERVED, ""), ("b", "served", ("is", "court", SERVED), SERVED, "")]),
            book_with([FIRST, ("b", "served", ("called", "answer"), ("day", "answer"), "served")]),
        ):
            self.assertIsNone(check_book(book))

    def test_numbers(self):
        self.assertEqual((MAX_EVENTS, MAX_RULES, MAX_LEVEL), (6, 6, 4))
        events = tuple("abcdefg")
        for count in range(1, 7):
            self.assertIsNone(check_book(((), events[:count], (("r", "a", YES, ("at", 0), ""),))))
            self.assertIsNone(check_book(((), ("a",), tuple((f"r{k}", "a", YES, ("at", 0), "") for k in range(count)))))
        self.refused(((), events, (("r", "a", YES, ("at", 0), ""),)))
        self.refused(((), (), (("r", "a", YES, ("at", 0), ""),)))
        self.refused(((), ("a",), tuple((f"r{k}", "a", YES, ("at", 0), "") for k in range(7))))
        self.refused(((), ("a",), ()))
        calendars = tuple((f"c{k}", 0, "", ()) for k in range(7))
        self.assertIsNone(check_book((calendars[:6], ("a",), (("r", "a", YES, ("at", 0), ""),))))
        self.refused((calendars, ("a",), (("r", "a", YES, ("at", 0), ""),)))

    def test_levels(self):
        self.assertIsNone(check_book(levels(4)))
        self.refused(levels(5))
        rules = levels(4)[2]
        for when, due in ((("called", "r4"), ("at", 0)), (("missed", "r4"), ("at", 0)), (YES, ("due", "r4")),
                          (YES, ("day", "r4")), (("not", ("le", ("at", 0), ("due", "r4"))), ("at", 0)),
                          (YES, ("if", ("called", "r4"), ("at", 0), ("at", 0)))):
            self.refused(book_with([*rules, ("r5", "served", when, due, "")]))
        for when, due in ((("called", "r3"), ("at", 0)), (YES, ("due", "r3")), (YES, ("later", ("day", "r3"), ("due", "r1")))):
            self.assertIsNone(check_book(book_with([*rules, ("r5", "r1", when, due, "")])))
        # A calendar with the name of a rule makes no level.
        named = book_with(
            [*[(f"r{k}", f"r{k - 1}" if k > 1 else "served", YES, SERVED, "") for k in range(1, 5)],
             ("r5", "served", ("is", "r4", SERVED), SERVED, "")], calendars=(("r4", 0, "", ()),))
        self.assertIsNone(check_book(named))

    def test_wrong(self):
        for rule in (
            ("served", "served", YES, SERVED, ""), ("A", "served", YES, SERVED, ""), ("due", "served", YES, SERVED, ""),
            ("", "served", YES, SERVED, ""), ("b", "b", YES, SERVED, ""), ("b", "court", YES, SERVED, ""),
            ("b", "", YES, SERVED, ""), ("b", "served", ("flag", "served"), SERVED, ""),
            ("b", "served", ("filed", "b"), SERVED, ""), ("b", "served", ("filed", "answer"), SERVED, ""),
            ("b", "served", ("called", "served"), SERVED, ""), ("b", "served", ("called", "b"), SERVED, ""),
            ("b", "served", ("missed", "c"), SERVED, ""), ("b", "served", YES, ("due", "served"), ""),
            ("b", "served", YES, ("due", "b"), ""), ("b", "served", YES, ("day", "b"), ""),
            ("b", "served", YES, ("day", "x"), ""), ("b", "served", YES, ("next", "bank", SERVED), ""),
            ("b", "served", ("is", "served", SERVED), SERVED, ""), ("b", "served", SERVED, SERVED, ""),
            ("b", "served", YES, YES, ""), ("b", "served", YES, ("at", 1000001), ""), ("b", "served", YES, SERVED, "answer"),
            ("b", "served", YES, SERVED, "b"), ("b", "served", YES, SERVED, "court"), ("answer", "served", YES, SERVED, ""),
            ("b", "served", YES, ("if", ("flag", "reply"), SERVED, SERVED), ""), ("b", "served", (), SERVED, ""),
        ):
            self.refused(book_with([FIRST, rule]))
        self.refused(book_with([SECOND, FIRST]))
        self.refused(book_with([FIRST], ("served", "reply", "served")))
        self.refused(book_with([FIRST], ("served", "reply", "answer")))
        self.refused(book_with([FIRST], ("served", "reply", "Due")))
        self.refused(book_with([FIRST], ("served", "reply", "due")))
        self.refused(book_with([FIRST], ("served",)))
        self.refused(book_with([FIRST], calendars=(("court", -1, "", ()),)))
        self.refused(book_with([FIRST], calendars=(("court", 0, "bank", ()),)))
        self.refused(book_with([FIRST], calendars=COURT * 2))
        self.refused(book_with([FIRST], calendars=(("court", 0, "", (0, 9, ((5, 6), (7, 7)))),)))
        self.refused(book_with([FIRST], calendars=()))

    def test_sizes(self):
        deep, wide = chain(41), row(201)
        deep = ("plus", chain(40), 1)
        for due, when in ((deep, YES), (SERVED, wide)):
            due = with_name(due)
            self.refused(book_with([("b", "served", when, due, "")]), TooLarge)
            self.refused(book_with([("b", "served", when, due, ""), ("b", "served", YES, SERVED, "")]))
            self.refused(book_with([("b", "served", when, due, "c")]))
        self.assertIsNone(check_book(book_with([("b", "served", row(200), with_name(chain(40)), "")])))

    def test_spoilt(self):
        junk = ("", "x", "answer", "served", 0, 1000001, True, (), YES, ("at", 1), ("flag", "served"))
        dice = random.Random(91)
        counts = {True: 0, False: 0}
        for _ in range(6):
            book = some_book(dice, 2, 2, 2)
            calendars, events = [rule[0] for rule in book[0]], book[1]
            for at, rule in enumerate(book[2]):
                earlier = [other[0] for other in book[2][:at]]
                for place, kind in ((2, "condition"), (3, "term")):
                    for node in spoilt_nodes(rule[place], junk):
                        changed = rule[:place] + (node,) + rule[place + 1:]
                        told = (book[0], events, book[2][:at] + (changed,) + book[2][at + 1:])
                        good = is_good(node, kind, calendars, events, earlier)
                        counts[good] += 1
                        if good:
                            self.assertIsNone(check_book(told))
                        else:
                            self.refused(told)
        self.assertGreater(min(counts.values()), 50)


def is_good(node, kind, calendars, events, rules):
    """True if the node is a case node of this kind, told kind by kind."""
    if not isinstance(node, tuple) or not node or not isinstance(node[0], str):
        return False
    forms = {"term": {
        "day": ["day"], "due": ["rule"], "at": ["number"], "plus": ["term", "number"], "next": ["calendar", "term"],
        "prev": ["calendar", "term"], "nth": ["calendar", "term", "count"], "later": ["term", "term"],
        "earlier": ["term", "term"], "if": ["condition", "term", "term"],
    }, "condition": {
        "le": ["term", "term"], "is": ["calendar", "term"], "yes": [], "not": ["condition"], "and": ["condition"] * 2,
        "or": ["condition"] * 2, "called": ["rule"], "missed": ["rule"], "filed": ["event"],
    }}[kind]
    if node[0] not in forms or len(forms[node[0]]) != len(node) - 1:
        return False
    names = {"day": [*events, *rules], "rule": rules, "calendar": calendars, "event": events}
    for what, part in zip(forms[node[0]], node[1:]):
        if what in ("term", "condition"):
            good = is_good(part, what, calendars, events, rules)
        elif what in names:
            good = part in names[what]
        else:
            good = type(part) is int and abs(part) <= 1000000 and (what != "count" or 1 <= abs(part) <= 6)
        if not good:
            return False
    return True


def with_name(term):
    """The term with the day `served` in the place of each other one."""
    if term[0] == "day":
        return SERVED
    return tuple(with_name(part) if isinstance(part, tuple) else part for part in term)


class CheckCases(unittest.TestCase):
    def test_nodes(self):
        for term in (SERVED, ("due", "default"), ("day", "default"), ("next", "court", ("day", "answer")), ("at", 3),
                     ("if", ("filed", "reply"), ("due", "answer"), SERVED)):
            self.assertIsNone(check_case_term(BOOK, term))
            self.assertIsNone(check_case_condition(BOOK, ("le", term, SERVED)))
            with self.assertRaises(NotAllowed):
                check_case_condition(BOOK, term)
        for condition in (YES, ("filed", "served"), ("called", "answer"), ("missed", "default"), ("is", "court", SERVED)):
            self.assertIsNone(check_case_condition(BOOK, condition))
            with self.assertRaises(NotAllowed):
                check_case_term(BOOK, condition)
        for term in (("day", "court"), ("day", "x"), ("due", "served"), ("due", "court"), ("next", "served", SERVED), (),
                     ("at", 10 ** 7), ("called", "answer"), "served", 3, ("if", ("flag", "served"), SERVED, SERVED)):
            with self.assertRaises(NotAllowed):
                check_case_term(BOOK, term)
        for condition in (("filed", "answer"), ("called", "served"), ("missed", "x"), ("flag", "served"), ("is", "x", SERVED),
                          ("not", ("flag", "reply")), (), ("filed",), ("filed", "served", "served"), ("yes", "x")):
            with self.assertRaises(NotAllowed):
                check_case_condition(BOOK, condition)

    def test_sizes(self):
        self.assertIsNone(check_case_term(BOOK, with_name(chain(40))))
        self.assertIsNone(check_case_condition(BOOK, row(200)))
        with self.assertRaises(TooLarge):
            check_case_term(BOOK, with_name(("plus", chain(40), 1)))
        with self.assertRaises(TooLarge):
            check_case_condition(BOOK, row(201))
        with self.assertRaises(NotAllowed):
            check_case_condition(BOOK, ("and", row(201), ("flag", "served")))

    def test_history(self):
        for history in ((OPEN, ()), (OPEN, (("reply", 10 ** 30), ("served", -10 ** 30))),
                        ((("court", ((-10 ** 30, 5), (7, 10 ** 30))),), (("served", 3),))):
            self.assertIsNone(check_history(BOOK, history))
        for history in (
            ((), ()), (OPEN * 2, ()), ((("bank", ()),), ()), ((("bank", ()), *OPEN), ()), ((("court", ((5, 4),)),), ()),
            ((("court", ((5, 6), (7, 8))),), ()), (OPEN, (("x", 3),)), (OPEN, (("answer", 3),)), (OPEN, (("court", 3),)),
            (OPEN, (("served", 3), ("reply", 3))), (OPEN, (("served", 3), ("served", 3))),
            (OPEN, (("reply", 3), ("reply", 4))),
            (OPEN, (("reply", True),)),
        ):
            with self.assertRaises(NotAllowed):
                check_history(BOOK, history)
        two = ((("court", 0, "", ()), ("bank", 0, "", ())), ("served",), (FIRST[:4] + ("",),))
        self.assertIsNone(check_history(two, ((("bank", ()), ("court", ((1, 2),))), ())))
        for calendars in ((("court", ()), ("bank", ())), OPEN, (("bank", ()),), (("bank", ()), ("bank", ()), ("court", ()))):
            with self.assertRaises(NotAllowed):
                check_history(two, (calendars, ()))


class Outcomes(unittest.TestCase):
    def told(self, filings, rules, closed=()):
        return outcomes(book_with(rules), ((("court", closed),), filings))

    def test_met(self):
        met, missed = ("answer", True, 4, True, False), ("answer", True, 4, False, True)
        for filings, outcome in (
            ((("reply", 4), ("served", 1)), met), ((("reply", 5), ("served", 1)), missed), ((("served", 1),), missed),
            ((("reply", -99), ("served", 1)), met), ((("reply", 1),), ("answer", False, None, False, False)),
            ((), ("answer", False, None, False, False)),
        ):
            self.assertEqual(self.told(filings, [FIRST]), (outcome,))
        self.assertEqual(self.told((("served", 1),), [FIRST[:4] + ("",)]), (missed,))
        self.assertEqual(self.told((("reply", 1), ("served", 1)), [FIRST[:4] + ("",)]), (missed,))
        self.assertEqual(self.told((("served", 1),), [FIRST[:4] + ("served",)]), (met,))
        self.assertEqual(self.told((("served", 10 ** 30),), [FIRST], ((10 ** 30, 10 ** 31),)),
                         (("answer", True, 10 ** 31 + 1, False, True),))

    def test_chains(self):
        late = ("late", "answer", YES, ("plus", ("day", "answer"), 2), "")
        self.assertEqual(self.told((("served", 1),), [FIRST, late])[1], ("late", True, 7, False, True))
        self.assertEqual(self.told((("reply", 2), ("served", 1)), [FIRST, late])[1], ("late", False, None, False, False))
        # It is on an event that is filed, but its due day needs a rule that does not happen.
        other = ("other", "served", YES, ("later", SERVED, ("day", "answer")), "")
        self.assertEqual(self.told((("reply", 2), ("served", 1)), [FIRST, other])[1], ("other", False, None, False, False))
        self.assertEqual(self.told((("served", 1),), [FIRST, other])[1], ("other", True, 5, False, True))
        both = ("both", "served", ("and", ("called", "answer"), ("not", ("missed", "answer"))), ("due", "answer"), "")
        self.assertEqual(self.told((("reply", 2), ("served", 1)), [FIRST, both])[1], ("both", True, 4, False, True))
        self.assertEqual(self.told((("served", 1),), [FIRST, both])[1], ("both", False, None, False, False))

    def test_no_value(self):
        history = (OPEN, (("served", 1),))
        reply, default = ("day", "reply"), ("day", "default")
        for term, told in (
            (SERVED, 1), (reply, None), (("due", "answer"), 4), (("day", "answer"), 5), (("due", "default"), 6),
            (default, 7), (("if", YES, SERVED, reply), None), (("if", ("filed", "reply"), reply, SERVED), None),
            (("if", ("le", reply, SERVED), SERVED, SERVED), None), (("if", ("filed", "reply"), SERVED, ("at", 3)), 3),
            (("if", ("or", YES, ("is", "court", reply)), SERVED, SERVED), None), (("plus", reply, 3), None),
            (("nth", "court", ("later", SERVED, reply), 1), None), (("at", 9), 9),
            (("if", ("called", "default"), ("at", 1), ("at", 2)), 1),
        ):
            self.assertEqual(case_value(BOOK, history, term), told)
        for condition, told in (
            (("le", reply, SERVED), False), (("le", SERVED, reply), False), (("not", ("le", reply, SERVED)), True),
            (("le", SERVED, ("if", YES, SERVED, reply)), False), (("is", "court", reply), False), (("is", "court", SERVED), True),
            (("or", ("le", reply, SERVED), ("filed", "served")), True), (("filed", "reply"), False),
            (("and", ("called", "answer"), ("missed", "default")), True), (("le", reply, reply), False),
        ):
            self.assertIs(case_holds(BOOK, history, condition), told)
        nothing = (OPEN, ())
        self.assertIsNone(case_value(BOOK, nothing, ("due", "answer")))
        self.assertIs(case_holds(BOOK, nothing, ("called", "answer")), False)

    def test_random(self):
        dice = random.Random(92)
        counts = {}
        for _ in range(500):
            book = some_book(dice, dice.randint(1, 3), dice.randint(1, 4), dice.randint(1, 4), depth=dice.randint(2, 4))
            check_book(book)
            history = some_history(dice, book)
            check_history(book, history)
            walk = Walk(book, history)
            self.assertEqual(outcomes(book, history), tuple(walk.outcomes))
            for _, *told in walk.outcomes:
                counts[(told[0], *told[2:])] = counts.get((told[0], *told[2:]), 0) + 1
            for _ in range(4):
                condition = case_condition(dice, 4, *names_of(book))
                self.assertIs(case_holds(book, history, condition), walk.holds(condition))
                term = case_term(dice, 3, *names_of(book))
                self.assertEqual(case_value(book, history, term), walk.value(term))
        self.assertEqual(len(counts), 3)
        self.assertGreater(min(counts.values()), 30)
