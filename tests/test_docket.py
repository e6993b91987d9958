"""[10.1] and [10.2], and the section diesnon/docket.py of the interface."""

import itertools
import random
import unittest

from diesnon.docket import MAX_DAY, MAX_DEEDS, Docket
from diesnon.errors import DiesError, Missing, Never, NotAllowed, TooLarge
from diesnon.stretches import longest
from tests.cases import some_book
from tests.dockets import do, some_deed, some_docket
from tests.samples import closed_of, days_of

YES = ("yes",)
SERVED = ("day", "served")
RULE = ("answer", "served", YES, SERVED, "")


def book_with(*calendars):
    return (calendars, ("served", "reply"), (RULE,))


COURT = ("court", 2, "", ())
BOOK = book_with(COURT)


def state_of(docket):
    return (docket.book(), docket.begin(), docket.today(), docket.filings(), docket.rules(), docket.deeds())


class Cases(unittest.TestCase):
    def refused(self, error, docket, *deed):
        before = state_of(docket)
        with self.assertRaises(error) as caught:
            do(docket, deed)
        self.assertEqual(state_of(docket), before)
        return caught.exception

    def done(self, docket, *deed):
        before = docket.deeds()
        self.assertIsNone(do(docket, deed))
        self.assertEqual(docket.deeds(), (*before, deed))


class Begin(Cases):
    def test_new(self):
        for begin in (0, 7, -MAX_DAY, MAX_DAY):
            docket = Docket(BOOK, begin)
            self.assertEqual(state_of(docket), (BOOK, begin, begin, (), (COURT,), ()))
        self.assertEqual((MAX_DAY, MAX_DEEDS), (1000000, 200))
        for begin in (MAX_DAY + 1, -MAX_DAY - 1, 10 ** 30):
            with self.assertRaises(NotAllowed):
                Docket(BOOK, begin)

    def test_no_calendars(self):
        outer = ("bank", 0, "", (0, 9, ((3, 5),)))
        for calendars, good in (
            ([outer, ("court", 0, "bank", (0, 9, ((3, 5),)))], True), ([outer, ("court", 0, "bank", (0, 9, ((3, 4),)))], False),
            ([outer, ("court", 0, "bank", (6, 9, ()))], True), ([outer, ("court", 0, "bank", (4, 9, ((4, 5),)))], True),
            ([outer, ("court", 0, "bank", (5, 9, ()))], False), ([outer, ("court", 3, "bank", ())], True),
            ([outer, ("court", 2, "bank", ())], False), ([("bank", 2, "", (0, 9, ((3, 5),)))], False),
            ([outer, ("court", 3, "bank", (6, 7, ((6, 6),)))], False), ([outer, ("court", 4, "bank", (6, 7, ((6, 6),)))], True),
            ([outer, ("mint", 0, "bank", ()), ("court", 0, "mint", (4, 4, ()))], False),
            ([outer, ("mint", 0, "bank", ()), ("court", 0, "mint", (2, 2, ()))], True), ([], True),
        ):
            if good:
                self.assertEqual(Docket(book_with(*calendars), 3).rules(), tuple(calendars))
            else:
                with self.assertRaises(Never):
                    Docket(book_with(*calendars), 3)
        with self.assertRaises(NotAllowed):
            Docket(book_with(("bank", 2, "", (0, 9, ((3, 5),)))), MAX_DAY + 1)


class Filings(Cases):
    def test_file(self):
        docket = Docket(BOOK, 5)
        self.refused(NotAllowed, docket, "file", "served", 6)
        self.refused(NotAllowed, docket, "file", "served", -MAX_DAY - 1)
        self.done(docket, "file", "served", 5)
        self.assertEqual(docket.filings(), (("served", 5),))
        self.refused(NotAllowed, docket, "file", "served", 5)
        self.done(docket, "file", "reply", -MAX_DAY)
        self.assertEqual(docket.filings(), (("reply", -MAX_DAY), ("served", 5)))
        for event in ("x", "court", "answer"):
            self.assertEqual(self.refused(Missing, docket, "file", event, 99).name, event)

    def test_correct_and_withdraw(self):
        docket = Docket(BOOK, 5)
        for deed in (("correct", "served", 3), ("withdraw", "served"), ("correct", "served", 9)):
            self.refused(NotAllowed, docket, *deed)
        self.done(docket, "file", "served", 5)
        self.done(docket, "correct", "served", 5)
        self.done(docket, "correct", "served", -3)
        self.assertEqual(docket.filings(), (("served", -3),))
        for day in (6, -MAX_DAY - 1, MAX_DAY):
            self.refused(NotAllowed, docket, "correct", "served", day)
        self.done(docket, "advance", 8)
        self.done(docket, "correct", "served", 8)
        self.assertEqual(docket.filings(), (("served", 8),))
        self.done(docket, "withdraw", "served")
        self.assertEqual(docket.filings(), ())
        self.refused(NotAllowed, docket, "withdraw", "served")
        self.done(docket, "file", "served", 1)
        for deed in (("correct", "x", 99), ("withdraw", "court")):
            self.assertEqual(self.refused(Missing, docket, *deed).name, deed[1])

    def test_advance(self):
        docket = Docket(BOOK, 5)
        for day in (4, -5, MAX_DAY + 1):
            self.refused(NotAllowed, docket, "advance", day)
        for day in (5, 6, 6, MAX_DAY):
            self.done(docket, "advance", day)
            self.assertEqual((docket.today(), docket.begin()), (day, 5))
        self.refused(NotAllowed, docket, "advance", MAX_DAY - 1)


class Publications(Cases):
    def test_new_days(self):
        docket = Docket(BOOK, 3)
        self.refused(NotAllowed, docket, "publish", "court", 2, ())
        self.refused(NotAllowed, docket, "publish", "court", 5, ((2, 3),))
        self.refused(NotAllowed, docket, "publish", "court", 5, ((5, 6),))
        self.done(docket, "publish", "court", 3, ((3, 3),))
        self.assertEqual(docket.rules(), (("court", 2, "", (3, 3, ((3, 3),))),))
        self.refused(NotAllowed, docket, "publish", "court", 3, ())
        self.refused(NotAllowed, docket, "publish", "court", 6, ((3, 4),))
        self.done(docket, "publish", "court", 6, ((4, 4), (6, 6)))
        self.assertEqual(docket.rules(), (("court", 2, "", (3, 6, ((3, 4), (6, 6)))),))
        self.done(docket, "publish", "court", MAX_DAY, ())
        for last in (MAX_DAY, MAX_DAY + 1, MAX_DAY + 5):
            self.refused(NotAllowed, docket, "publish", "court", last, ())
        self.assertEqual(docket.book(), BOOK)

    def test_wrong(self):
        docket = Docket(book_with(("court", 0, "", (0, 9, ((9, 9),)))), 3)
        for last, closed in ((9, ()), (8, ()), (20, ((9, 10),)), (20, ((20, 21),)), (20, ((11, 10),)), (20, ((11, 12), (13, 14))),
                             (20, ((13, 14), (11, 11))), (MAX_DAY + 1, ()), (-5, ())):
            self.refused(NotAllowed, docket, "publish", "court", last, closed)
        self.assertEqual(self.refused(Missing, docket, "publish", "bank", 2, ()).name, "bank")
        self.refused(Missing, docket, "publish", "served", 12, ())
        self.done(docket, "publish", "court", 20, ((10, 11), (20, 20)))
        self.assertEqual(docket.rules()[0][3], (0, 20, ((9, 11), (20, 20))))

    def test_first_day(self):
        docket = Docket(BOOK, -3)
        self.done(docket, "advance", 50)
        self.done(docket, "publish", "court", 0, ())
        self.assertEqual(docket.rules()[0][3], (-3, 0, ()))
        self.assertEqual(Docket(BOOK, MAX_DAY).publish("court", MAX_DAY, ((MAX_DAY, MAX_DAY),)), None)

    def test_never(self):
        docket = Docket(book_with(("bank", 0, "", ()), ("court", 2, "bank", (0, 4, ()))), 0)
        self.refused(Never, docket, "publish", "bank", 9, ((3, 3),))
        self.refused(Never, docket, "publish", "bank", 9, ((5, 7),))
        self.done(docket, "publish", "bank", 9, ((5, 6), (9, 9)))
        self.refused(Never, docket, "publish", "court", 6, ((6, 6),))
        self.refused(Never, docket, "publish", "court", 10, ((5, 6),))
        self.refused(Never, docket, "publish", "court", 8, ((5, 7),))
        self.refused(NotAllowed, docket, "publish", "court", 8, ((5, 9),))
        self.done(docket, "publish", "court", 8, ((5, 6), (8, 8)))
        self.refused(Never, docket, "publish", "court", 10, ((9, 10),))
        self.done(docket, "publish", "court", 10, ((9, 9),))

    def test_random(self):
        # Whether some calendars keep the rules, told by trying all of them near the known days.
        dice = random.Random(101)
        counts = {True: 0, False: 0}
        for _ in range(300):
            calendars = []
            for name in ("bank", "court"):
                first = dice.randint(0, 2)
                last = first + dice.randint(0, 3)
                known = (first, last, closed_of([day for day in range(first, last + 1) if dice.random() < 0.4]))
                calendars.append((name, dice.choice((0, 1, 2)), dice.choice(("", *[rule[0] for rule in calendars])),
                                  dice.choice(((), known))))
            good = some_keep(calendars)
            counts[good] += 1
            try:
                Docket(book_with(*calendars), 0)
                self.assertTrue(good)
            except Never:
                self.assertFalse(good)
        self.assertGreater(min(counts.values()), 20)


def some_keep(calendars):
    """True if some calendars keep the two rules; none needs a closed day but from 0 to 5."""
    sets = [closed_of([day for day, shut in enumerate(row) if shut]) for row in itertools.product((False, True), repeat=6)]
    good = []
    for _, run, _, known in calendars:
        good.append([closed for closed in sets if (run == 0 or longest(closed) <= run) and (
            not known or days_of(closed) & set(range(known[0], known[1] + 1)) == days_of(known[2]))])
    if calendars[1][2] == "":
        return all(good)
    return any(days_of(outer) <= days_of(inner) for outer in good[0] for inner in good[1])


class Deeds(Cases):
    def test_order_of_errors(self):
        docket = Docket(book_with(("court", 1, "", ()),), 0)
        for _ in range(MAX_DEEDS - 1):
            docket.advance(0)
        docket.file("served", 0)
        self.assertEqual(len(docket.deeds()), 200)
        for deed in (("file", "x", 9), ("correct", "x", 9), ("withdraw", "x"), ("publish", "x", -9, ((9, 4),))):
            self.refused(Missing, docket, *deed)
        for deed in (("file", "served", 0), ("file", "reply", 1), ("correct", "reply", 0), ("correct", "served", 1),
                     ("withdraw", "reply"), ("publish", "court", -1, ()), ("publish", "court", 5, ((5, 6),)), ("advance", -1)):
            self.refused(NotAllowed, docket, *deed)
        for deed in (("file", "reply", 0), ("correct", "served", 0), ("withdraw", "served"), ("advance", 3),
                     ("publish", "court", 5, ()), ("publish", "court", 5, ((3, 5),))):
            self.refused(TooLarge, docket, *deed)
        docket.undo()
        self.refused(Never, docket, "publish", "court", 5, ((3, 5),))
        self.done(docket, "publish", "court", 5, ((3, 3),))
        self.refused(TooLarge, docket, "advance", 3)

    def test_undo(self):
        docket = Docket(BOOK, 0)
        with self.assertRaises(NotAllowed):
            docket.undo()
        states = [state_of(docket)]
        for deed in (("file", "served", 0), ("publish", "court", 3, ((2, 3),)), ("advance", 4), ("correct", "served", 3),
                     ("publish", "court", 9, ()), ("withdraw", "served"), ("file", "reply", 1)):
            self.done(docket, *deed)
            states.append(state_of(docket))
        while len(states) > 1:
            self.assertEqual(state_of(docket), states.pop())
            self.assertIsNone(docket.undo())
        self.assertEqual(state_of(docket), states[0])
        with self.assertRaises(NotAllowed):
            docket.undo()

    def test_copy(self):
        docket = Docket(BOOK, 0)
        docket.publish("court", 3, ((2, 3),))
        other = docket.copy()
        self.assertEqual(state_of(other), state_of(docket))
        before = state_of(docket)
        other.file("served", 0)
        other.publish("court", 9, ())
        other.undo()
        other.undo()
        other.undo()
        self.assertEqual(state_of(docket), before)
        self.assertEqual(state_of(other), state_of(Docket(BOOK, 0)))
        docket.advance(8)
        self.assertEqual(other.today(), 0)

    def test_random(self):
        dice = random.Random(102)
        counts = {}
        for _ in range(60):
            book = some_book(dice, dice.randint(0, 3), dice.randint(1, 4), 1)
            docket = some_docket(dice, book, 0)
            if docket is None:
                continue
            states = [state_of(docket)]
            for _ in range(20):
                deed = some_deed(dice, docket)
                try:
                    do(docket, deed)
                except DiesError as error:
                    self.assertEqual(state_of(docket), states[-1])
                    told = type(error).__name__
                else:
                    self.assertEqual(docket.deeds(), (*states[-1][5], deed))
                    self.check_deed(states[-1], docket, deed)
                    states.append(state_of(docket))
                    told = deed[0]
                counts[told] = counts.get(told, 0) + 1
            self.assertEqual(state_of(docket.copy()), state_of(docket))
            while len(states) > 1:
                self.assertEqual(state_of(docket), states.pop())
                docket.undo()
        self.assertGreater(min(counts.values()), 5)
        self.assertEqual(len(counts), 7)

    def check_deed(self, before, docket, deed):
        """Checks what stands in the docket behind a deed, told day by day."""
        _, begin, today, filings, rules, _ = before
        filed = dict(filings)
        if deed[0] in ("file", "correct"):
            self.assertIs(deed[1] in filed, deed[0] == "correct")
            self.assertLessEqual(deed[2], today)
            filed[deed[1]] = deed[2]
        elif deed[0] == "withdraw":
            del filed[deed[1]]
        self.assertEqual(docket.filings(), tuple(sorted(filed.items())))
        self.assertEqual(docket.today(), deed[1] if deed[0] == "advance" else today)
        for old, new in zip(rules, docket.rules()):
            if deed[0] == "publish" and old[0] == deed[1]:
                first, days = (old[3][0], days_of(old[3][2])) if old[3] else (begin, set())
                self.assertEqual(new, (*old[:3], (first, deed[2], closed_of(days | days_of(deed[3])))))
            else:
                self.assertEqual(old, new)
