"""[10.3] to [10.7], and the section diesnon/futures.py of the interface."""

import itertools
import random
import unittest

from diesnon.allcases import question_of, world_of
from diesnon.books import check_book, check_case_condition, check_history
from diesnon.decide import check
from diesnon.docket import MAX_DAY, Docket
from diesnon.errors import Missing, Never, NotAllowed, TooLarge
from diesnon.futures import (
    check_proof, due_span, fixed, future_with, is_future, known_conditions, open_book, played, proof_of, standing, status,
)
from diesnon.stretches import cut, longest
from diesnon.worlds import keeps_rules
from tests.cases import Walk, case_condition, names_of, some_book, some_history
from tests.dockets import do, some_docket
from tests.pictures import chain_of_days
from tests.samples import closed_of

YES, NO = ("yes",), ("not", ("yes",))
SERVED, REPLY = ("day", "served"), ("day", "reply")
ANSWER = ("answer", "served", YES, ("next", "court", ("plus", SERVED, 3)), "reply")
LATE = ("late", "answer", YES, ("plus", ("day", "answer"), 2), "")
BOOK = ((("court", 2, "", ()),), ("served", "reply"), (ANSWER, LATE))


def docket_with(*deeds, book=BOOK, begin=0):
    docket = Docket(book, begin)
    for deed in deeds:
        do(docket, deed)
    return docket


def state_of(docket):
    return (docket.book(), docket.begin(), docket.today(), docket.filings(), docket.rules(), docket.deeds())


def is_future_told(docket, history):
    """The sentences of [10.3], one by one."""
    rules = docket.rules()
    if not keeps_rules((history[0], (), ()), rules):
        return False
    kept, filed = dict(docket.filings()), dict(history[1])
    for event in docket.book()[1]:
        if event in kept:
            if filed.get(event) != kept[event]:
                return False
        elif event in filed and filed[event] < docket.today():
            return False
    return True


def history_near(dice, docket):
    """A history that is often a future of the docket."""
    calendars, filings = some_history(dice, open_book(docket))
    filed = dict(filings)
    if dice.random() < 0.8:
        filed = {event: max(day, docket.today()) for event, day in filings}
        filed.update(docket.filings())
    return (calendars, tuple(sorted(filed.items())))


class Futures(unittest.TestCase):
    def test_conditions(self):
        served, reply = ("filed", "served"), ("filed", "reply")
        docket = docket_with(("advance", 3))
        self.assertEqual(known_conditions(docket), (
            ("or", ("not", served), ("le", ("at", 3), SERVED)), ("or", ("not", reply), ("le", ("at", 3), REPLY))))
        do(docket, ("file", "served", -2))
        self.assertEqual(known_conditions(docket), (
            served, ("le", SERVED, ("at", -2)), ("le", ("at", -2), SERVED), ("or", ("not", reply), ("le", ("at", 3), REPLY))))
        do(docket, ("file", "reply", 3))
        self.assertEqual(known_conditions(docket)[3:], (reply, ("le", REPLY, ("at", 3)), ("le", ("at", 3), REPLY)))
        for condition in known_conditions(docket):
            self.assertIsNone(check_case_condition(BOOK, condition))

    def test_open_book(self):
        docket = docket_with(("publish", "court", 4, ((2, 3),)))
        self.assertEqual(open_book(docket), ((("court", 2, "", (0, 4, ((2, 3),))),), *BOOK[1:]))
        self.assertIsNone(check_book(open_book(docket)))
        self.assertEqual(docket.book(), BOOK)

    def test_is_future(self):
        docket = docket_with(("publish", "court", 4, ((2, 3),)), ("advance", 3), ("file", "served", 1))
        good = (("court", ((2, 3), (6, 7))),)
        for history, told in (
            ((good, (("served", 1),)), True), ((good, (("reply", 3), ("served", 1))), True),
            ((good, (("reply", 2), ("served", 1))), False), ((good, ()), False), ((good, (("reply", 9),)), False),
            ((good, (("served", 2),)), False), (((("court", ((2, 2),)),), (("served", 1),)), False),
            (((("court", ((2, 4),)),), (("served", 1),)), False), (((("court", ((2, 3), (6, 8))),), (("served", 1),)), False),
            (((("court", ((-9, -8), (2, 3))),), (("served", 1),)), True),
        ):
            self.assertIs(is_future(docket, history), told)

    def test_random(self):
        dice = random.Random(111)
        counts = {True: 0, False: 0}
        for _ in range(150):
            book = some_book(dice, dice.randint(0, 2), dice.randint(1, 4), 2)
            docket = some_docket(dice, book)
            for _ in range(6 if docket else 0):
                history = history_near(dice, docket)
                told = is_future_told(docket, history)
                counts[told] += 1
                self.assertIs(is_future(docket, history), told)
                walk = Walk(open_book(docket), history)
                kept = keeps_rules((history[0], (), ()), docket.rules())
                self.assertIs(kept and all(walk.holds(condition) for condition in known_conditions(docket)), told)
        self.assertGreater(min(counts.values()), 100)


class Standings(unittest.TestCase):
    def check(self, docket, condition):
        told = standing(docket, condition)
        book, known = open_book(docket), known_conditions(docket)
        if told == "certain":
            paper = proof_of(docket, condition)
            self.assertIs(check_proof(docket, condition, paper), True)
            self.assertIs(check(question_of(book, known, condition), paper), True)
        else:
            with self.assertRaises(NotAllowed):
                proof_of(docket, condition)
        for asked, none in ((condition, "impossible"), (("not", condition), "certain")):
            if told == none:
                with self.assertRaises(Never):
                    future_with(docket, asked)
            else:
                future = future_with(docket, asked)
                self.assertIsNone(check_history(docket.book(), future))
                self.assertTrue(is_future_told(docket, future))
                self.assertTrue(Walk(docket.book(), future).holds(asked))
        return told

    def test_told(self):
        docket = docket_with(("publish", "court", 6, ((5, 6),)), ("advance", 2), ("file", "served", 2))
        for condition, told in (
            (YES, "certain"), (NO, "impossible"), (("called", "answer"), "certain"), (("filed", "served"), "certain"),
            (("missed", "answer"), "open"), (("filed", "reply"), "open"), (("called", "late"), "open"),
            (("le", ("due", "answer"), ("at", 7)), "certain"), (("le", ("due", "answer"), ("at", 6)), "impossible"),
            (("le", REPLY, ("at", 1)), "impossible"), (("is", "court", ("at", 7)), "certain"), (("is", "court", ("at", 8)), "open"),
            (("is", "court", ("at", 5)), "impossible"), (("le", REPLY, REPLY), "open"),
        ):
            self.assertEqual(self.check(docket, condition), told)
            self.assertEqual(status(docket, "answer"), ("certain", "open"))
        do(docket, ("advance", 8))
        self.assertEqual(status(docket, "answer"), ("certain", "certain"))
        self.assertEqual(status(docket, "late"), ("certain", "certain"))
        do(docket, ("file", "reply", 7))
        self.assertEqual((status(docket, "answer"), status(docket, "late")), (("certain", "impossible"), ("impossible", "impossible")))
        empty = docket_with()
        self.assertEqual((status(empty, "answer"), status(empty, "late")), (("open", "open"), ("open", "open")))

    def test_papers(self):
        docket = docket_with(("file", "served", 0))
        condition = ("le", ("due", "answer"), ("at", 5))
        paper = proof_of(docket, condition)
        self.assertIs(check_proof(docket, condition, paper), True)
        self.assertIs(check_proof(docket, ("le", ("due", "answer"), ("at", 4)), paper), False)
        self.assertIs(check_proof(docket_with(("advance", 1), ("file", "served", 1)), condition, paper), False)
        for spoilt in ((), ("ring", ()), paper[:-1], ("cases", 0, (paper,) * 9), "ring", 3):
            self.assertIs(check_proof(docket, condition, spoilt), False)

    def test_missing_and_large(self):
        docket = docket_with()
        for call in (due_span, status, fixed):
            for name in ("x", "served", "court"):
                with self.assertRaises(Missing) as caught:
                    call(docket, name)
                self.assertEqual(caught.exception.name, name)

        def moved(term):
            return SERVED if term[0] == "day" else ("plus", moved(term[1]), term[2])

        far = ("le", moved(chain_of_days(82)), SERVED)
        for call in (standing, future_with, proof_of, lambda docket, far: check_proof(docket, far, ("ring", ()))):
            with self.assertRaises(TooLarge):
                call(docket, far)
        large = docket_with(book=(BOOK[0], BOOK[1], (("far", "served", YES, moved(chain_of_days(82)), ""),)))
        with self.assertRaises(TooLarge):
            due_span(large, "far")

    def test_no_calendars_and_no_filings(self):
        book = ((), ("a",), (("r", "a", ("le", ("plus", ("day", "a"), 1), ("day", "a")), ("day", "a"), ""),
                             ("s", "a", YES, ("day", "a"), "")))
        docket = Docket(book, 3)
        self.assertEqual((status(docket, "r"), due_span(docket, "r"), fixed(docket, "r")),
                         (("impossible", "impossible"), ("never",), None))
        self.assertEqual((status(docket, "s"), due_span(docket, "s")[:3], fixed(docket, "s")),
                         (("open", "open"), ("span", 3, None), None))
        self.assertTrue(is_future(docket, ((), ())))

    def test_random(self):
        dice = random.Random(112)
        counts = {}
        for _ in range(120):
            book = some_book(dice, dice.randint(0, 3), dice.randint(1, 4), dice.randint(1, 4))
            docket = some_docket(dice, book, 10)
            if docket is None:
                continue
            condition = case_condition(dice, 3, *names_of(book))
            try:
                told = self.check(docket, condition)
            except TooLarge:
                continue
            counts[told] = counts.get(told, 0) + 1
            for _ in range(5):
                history = history_near(dice, docket)
                if is_future_told(docket, history):
                    self.assertIn(told, ("open", "certain" if Walk(book, history).holds(condition) else "impossible"))
        self.assertGreater(min(counts.values()), 15)


class Spans(unittest.TestCase):
    def check(self, docket, name):
        told = due_span(docket, name)
        called, _ = status(docket, name)
        if told == ("never",):
            self.assertEqual((called, fixed(docket, name)), ("impossible", None))
            return told
        word, low, high, first, last = told
        self.assertEqual((word, called != "impossible"), ("span", True))
        for day, future in ((low, first), (high, last)):
            self.assertIs(day is None, future is None)
            if future is not None:
                self.assertIsNone(check_history(docket.book(), future))
                self.assertTrue(is_future_told(docket, future))
                self.assertEqual(Walk(docket.book(), future).due[name], day)
        single = called == "certain" and low is not None and low == high
        self.assertEqual(fixed(docket, name), low if single else None)
        return told

    def test_told(self):
        filed = ("file", "served", 0)
        for deeds, name, told in (
            ((filed,), "answer", (3, 5)), ((filed, ("publish", "court", 4, ((3, 4),))), "answer", (5, 5)),
            ((filed, ("publish", "court", 3, ((3, 3),))), "answer", (4, 5)), ((), "answer", (3, None)),
            ((("advance", 4),), "answer", (7, None)), ((filed,), "late", (6, 8)), ((filed, ("file", "reply", 0)), "late", "never"),
            ((filed, ("advance", 9)), "late", (6, 8)), ((filed, ("advance", 9), ("file", "reply", 4)), "late", (6, 6)),
        ):
            span = self.check(docket_with(*deeds), name)
            self.assertEqual(span[0] if told == "never" else span[1:3], told)
        docket = docket_with(filed, ("publish", "court", 4, ((3, 4),)))
        self.assertEqual((fixed(docket, "answer"), fixed(docket, "late")), (5, None))
        # Its day is the same in all futures in which it is called, but it is not called in all of them.
        self.assertEqual(due_span(docket, "late")[1:3], (8, 8))
        self.assertEqual(status(docket, "late"), ("open", "open"))

    def test_endless(self):
        book = ((("court", 0, "", ()),), ("a", "b"), (
            ("r", "a", YES, ("prev", "court", ("day", "a")), ""), ("s", "a", YES, ("next", "court", ("day", "a")), ""),
            ("t", "a", YES, ("if", ("is", "court", ("at", 0)), ("prev", "court", ("at", 5)), ("next", "court", ("at", 5))), "")))
        docket = docket_with(("file", "a", 0), book=book)
        self.assertEqual([self.check(docket, name)[1:3] for name in "rst"], [(None, 0), (0, None), (0, None)])
        self.assertEqual(self.check(docket_with(book=book), "r")[1:3], (None, None))

    def test_by_trying(self):
        # All calendars of a few days are tried, and all filings near today.
        dice = random.Random(113)
        counts = {}
        for _ in range(40):
            docket, rule = near_docket(dice)
            days = dues_by_trying(docket)
            told = self.check(docket, rule[0])
            counts[len(days)] = counts.get(len(days), 0) + 1
            if not days:
                self.assertEqual(told, ("never",))
            else:
                self.assertEqual(told[1], min(days))
                if told[2] is None:
                    # An event that is not filed may be filed as late as one likes.
                    self.assertLess(len(docket.filings()), 2)
                else:
                    self.assertEqual(told[2], max(days))
        self.assertGreater(counts[0], 2)
        self.assertGreater(counts[1], 2)

    def test_random(self):
        dice = random.Random(114)
        counts = {}
        for _ in range(80):
            book = some_book(dice, dice.randint(0, 2), dice.randint(1, 3), dice.randint(1, 3))
            docket = some_docket(dice, book, 8)
            for rule in book[2] if docket else ():
                try:
                    told = self.check(docket, rule[0])
                except TooLarge:
                    continue
                kind = (told[0], *[day is None for day in told[1:3]])
                counts[kind] = counts.get(kind, 0) + 1
                for _ in range(6):
                    history = history_near(dice, docket)
                    if is_future_told(docket, history):
                        due = Walk(book, history).due.get(rule[0])
                        if due is not None:
                            self.assertTrue(told[1] is None or told[1] <= due)
                            self.assertTrue(told[2] is None or told[2] >= due)
        self.assertGreater(min(counts[("never",)], counts[("span", False, False)], counts[("span", False, True)]), 10)


def near_docket(dice):
    """A docket on one calendar with runs of at most one day, and a rule that looks at few days."""
    base = dice.choice((SERVED, REPLY, ("later", SERVED, REPLY)))
    due = dice.choice((("next", "court", ("plus", base, 1)), ("prev", "court", base), ("nth", "court", base, dice.choice((1, 2, -1)))))
    when = dice.choice((YES, YES, ("filed", "reply"), ("is", "court", SERVED), ("not", ("le", REPLY, SERVED))))
    rule = ("r", dice.choice(("served", "reply")), when, due, dice.choice(("", "reply")))
    docket = Docket(((("court", 1, "", ()),), ("served", "reply"), (rule,)), 0)
    for event in ("served", "reply"):
        if dice.random() < 0.6:
            docket.file(event, 0)
        if dice.random() < 0.3:
            docket.advance(docket.today() + 1)
    if dice.random() < 0.6:
        docket.publish("court", 1, dice.choice(((), ((0, 0),), ((1, 1),))))
    return docket, rule


def dues_by_trying(docket):
    """The due days of the first rule in all futures with filings up to two days behind today."""
    name, known = docket.book()[2][0][0], docket.rules()[0][3]
    found = set()
    for row in itertools.product((False, True), repeat=10):
        closed = closed_of([day for day, shut in zip(range(-3, 7), row) if shut])
        if longest(closed) > 1 or known and cut(closed, known[0], known[1]) != known[2]:
            continue
        kept = dict(docket.filings())
        choices = [[kept[event]] if event in kept else [None, docket.today(), docket.today() + 1, docket.today() + 2]
                   for event in ("reply", "served")]
        for days in itertools.product(*choices):
            filed = tuple((event, day) for event, day in zip(("reply", "served"), days) if day is not None)
            due = Walk(docket.book(), ((("court", closed),), filed)).due.get(name)
            if due is not None:
                found.add(due)
    return found


class Steps(unittest.TestCase):
    def test_steps_forward(self):
        dice = random.Random(115)
        counts = {}
        for _ in range(60):
            book = some_book(dice, dice.randint(1, 2), dice.randint(1, 3), 2)
            docket = some_docket(dice, book, 4)
            if docket is None:
                continue
            condition = case_condition(dice, 2, *names_of(book))
            before, span = standing(docket, condition), due_span(docket, "answer")
            future = future_with(docket, YES)
            other = played(docket, future, docket.today() + dice.randint(0, 4))
            for deed in other.deeds()[len(docket.deeds()):]:
                do(docket, deed)
                try:
                    after, now = standing(docket, condition), due_span(docket, "answer")
                except TooLarge:
                    break
                self.assertIn(before, ("open", after))
                if now != ("never",):
                    self.assertNotEqual(span, ("never",))
                    self.assertTrue(span[1] is None or now[1] is not None and now[1] >= span[1])
                    self.assertTrue(span[2] is None or now[2] is not None and now[2] <= span[2])
                before, span = after, now
                counts[deed[0]] = counts.get(deed[0], 0) + 1
        self.assertGreater(min(counts[word] for word in ("publish", "advance", "file")), 5)

    def test_played(self):
        docket = docket_with(("publish", "court", 3, ((2, 3),)))
        history = ((("court", ((2, 3), (5, 5), (8, 9))),), (("reply", 6), ("served", 4)))
        for last, deeds in (
            (0, ()), (2, (("advance", 2),)), (3, (("advance", 3),)),
            (4, (("publish", "court", 4, ()), ("advance", 4), ("file", "served", 4))),
            (8, (("publish", "court", 8, ((5, 5), (8, 8))), ("advance", 4), ("file", "served", 4), ("advance", 6),
                 ("file", "reply", 6), ("advance", 8))),
        ):
            before = state_of(docket)
            told = played(docket, history, last)
            self.assertEqual(told.deeds(), (("publish", "court", 3, ((2, 3),)), *deeds))
            self.assertEqual((told.today(), told.book(), state_of(docket)), (last, BOOK, before))
            self.assertTrue(is_future(told, history))

    def test_order_and_names(self):
        book = ((("court", 0, "", (-5, 9, ())), ("bank", 0, "", ()), ("mint", 0, "", ())), ("c", "b", "a"),
                (("r", "a", YES, ("day", "a"), ""),))
        docket = docket_with(("advance", 3), book=book, begin=2)
        history = ((("bank", ((0, 2), (4, 4), (9, 12))), ("court", ((-9, -8),)), ("mint", ())), (("a", 5), ("b", 3), ("c", 5)))
        self.assertEqual(played(docket, history, 5).deeds(), (
            ("advance", 3), ("publish", "bank", 5, ((2, 2), (4, 4))), ("publish", "mint", 5, ()), ("file", "b", 3),
            ("advance", 5), ("file", "a", 5), ("file", "c", 5)))
        self.assertEqual(played(docket, history, 3).deeds(), (
            ("advance", 3), ("publish", "bank", 3, ((2, 2),)), ("publish", "mint", 3, ()), ("file", "b", 3)))
        self.assertEqual(played(docket, history, 12).deeds()[1], ("publish", "court", 12, ()))

    def test_wrong(self):
        docket = docket_with(("advance", 3), ("file", "served", 2))
        good = ((("court", ()),), (("served", 2),))
        for history, last in ((good, 2), (good, MAX_DAY + 1), (((("court", ()),), ()), 5), (((("court", ((1, 3),)),), good[1]), 5),
                              (((("court", ()),), (("reply", 2), ("served", 2))), 5), (((("court", ()),), (("served", 3),)), 5)):
            with self.assertRaises(NotAllowed):
                played(docket, history, last)
        self.assertEqual(played(docket, good, MAX_DAY).today(), MAX_DAY)

    def test_two_hundred(self):
        history = ((("court", ()),), (("reply", 9), ("served", 9)))
        for count, good in ((196, True), (197, False)):
            docket = docket_with(*[("advance", 0)] * count)
            if good:
                self.assertEqual(len(played(docket, history, 9).deeds()), 200)
            else:
                with self.assertRaises(TooLarge):
                    played(docket, history, 9)
                with self.assertRaises(NotAllowed):
                    played(docket, history, -1)
            self.assertEqual(len(docket.deeds()), count)

    def test_random(self):
        dice = random.Random(116)
        for _ in range(80):
            book = some_book(dice, dice.randint(0, 3), dice.randint(1, 4), 2)
            docket = some_docket(dice, book, 6)
            if docket is None:
                continue
            try:
                history = future_with(docket, case_condition(dice, 2, *names_of(book)))
            except (Never, TooLarge):
                continue
            last = docket.today() + dice.randint(0, 12)
            before = state_of(docket)
            told = played(docket, history, last)
            self.assertEqual(state_of(docket), before)
            deeds = told.deeds()[len(docket.deeds()):]
            step = docket.copy()
            for deed in deeds:
                if deed[0] == "file":
                    self.assertEqual(deed[2], step.today())
                do(step, deed)
                self.assertTrue(is_future_told(step, history))
            self.assertEqual((state_of(step), told.today()), (state_of(told), last))
            self.assertTrue(all(rule[3] and rule[3][1] >= last for rule in told.rules()))
            coming = dict(history[1])
            self.assertEqual(set(told.filings()) - set(docket.filings()),
                             {pair for pair in coming.items() if pair[0] not in dict(docket.filings()) and pair[1] <= last})
            self.assertTrue(keeps_rules(world_of(book, history), told.rules()))
