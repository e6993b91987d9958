"""[11.1], and the section diesnon/booktexts.py of the interface."""

import random
import unittest

from diesnon.books import check_book
from diesnon.booktexts import book_text, read_book
from diesnon.errors import BadForm, NotAllowed, TooLarge
from diesnon.writer import condition_text, term_text
from tests.cases import some_book
from tests.samples import row

YES = ("yes",)
SERVED = ("day", "served")
TEXT = """calendar court run 2
event served
event reply
rule answer on served when yes due next court(served + 3) met reply
"""
BOOK = ((("court", 2, "", ()),), ("served", "reply"),
        (("answer", "served", YES, ("next", "court", ("plus", SERVED, 3)), "reply"),))


class Cases(unittest.TestCase):
    def refused(self, text, line):
        with self.assertRaises(BadForm, msg=text) as caught:
            read_book(text)
        self.assertEqual(caught.exception.line, line, text)


class Written(Cases):
    def test_told(self):
        self.assertEqual((book_text(BOOK), read_book(TEXT)), (TEXT, BOOK))
        self.assertEqual(read_book(TEXT[:-1]), BOOK)
        rules = (BOOK[2][0], ("late", "answer", ("and", ("missed", "answer"), ("not", ("or", ("filed", "reply"), YES))),
                              ("later", ("due", "answer"), ("nth", "court", ("day", "answer"), -2)), ""))
        book = ((("bank", 0, "", (-3, 9, ((1, 2), (4, 4)))), ("court", 2, "bank", ())), ("served", "reply"), rules)
        text = ("calendar bank known -3 to 9 closed 1..2 4..4\ncalendar court run 2 within bank\nevent served\nevent reply\n"
                "rule answer on served when yes due next court(served + 3) met reply\n"
                "rule late on answer when missed answer and not [filed reply or yes] "
                "due later(due answer, open court -2(answer))\n")
        self.assertEqual((book_text(book), read_book(text)), (text, book))

    def test_random(self):
        dice = random.Random(131)
        for _ in range(150):
            book = some_book(dice, dice.randint(0, 3), dice.randint(1, 4), dice.randint(1, 4), depth=dice.randint(1, 4))
            text = book_text(book)
            self.assertEqual(read_book(text), book)
            self.assertEqual(text.count("\n"), len(book[0]) + len(book[1]) + len(book[2]))
            for _, _, when, due, _ in book[2]:
                self.assertIn(f" when {condition_text(when)} due {term_text(due)}", text)


class Read(Cases):
    def rule(self, line):
        return read_book(f"calendar court\nevent served\nevent reply\nrule a on served when yes due served\n{line}")[2][1]

    def test_spaces(self):
        for line in (
            "rule b on a when filed reply and served<=due a due next court(a)-3 met reply",
            "rule   b  on  a  when  filed   reply  and  served  <=  due   a  due  next   court ( a ) - 3  met  reply  ",
            "rule b on a when[filed reply]and[served<=due a]due(next court(a))-3 met reply",
        ):
            self.assertEqual(self.rule(line), ("b", "a", ("and", ("filed", "reply"), ("le", SERVED, ("due", "a"))),
                                               ("plus", ("next", "court", ("day", "a")), -3), "reply"))
        self.assertEqual(self.rule("rule b on a when due a<=due a due due a met reply"),
                         ("b", "a", ("le", ("due", "a"), ("due", "a")), ("due", "a"), "reply"))
        self.assertEqual(self.rule("rule b on a when called a or missed a due@-0")[2:],
                         (("or", ("called", "a"), ("missed", "a")), ("at", 0), ""))
        self.assertEqual(read_book("event   served  \nrule a on served when yes due served")[1], ("served",))

    def test_bad_lines(self):
        good = TEXT.splitlines()
        for line in (
            "", " ", "event", "event ", "event 1", "event Served", "event served reply", " event bond", "Event bond", "event bond,",
            "events bond", "eventbond", "event due", "calendar bank", "calendar bank run 2", "rule", "rule b", "rule b on served",
            "rule b on served when yes", "rule b on served when yes due", "rule b on served when yes due served met",
            "rule b on served when yes due served met reply reply", "rule b on served when yes due served met reply,",
            "rule b on served due served", "rule b when yes due served", "rule b on served when yes met reply due served",
            "rule b on served when served due served", "rule b on served when yes due yes", "rule b on served when ?x due served",
            "rule b on served when not ?x or yes due served", "rule b on served when yes due if(?x, served, served)",
            "rule b on served when yes due served ?x", " rule b on served when yes due served", "rule B on served when yes due served",
            "rule b on due when yes due served", "rule due on served when yes due served", "Rule b on served when yes due served",
            "rule b on served when yes due served; ", "ruleb on served when yes due served", "rule b on served whenyes due served",
            "assume yes", "claim yes", "rule b on served when yes due @00", "rule b on served when yes due open court 7(served)",
            "rule b on served when yes due served due served", "rule b on served when called due served",
        ):
            at = 5 if line.startswith("rule") else 4
            self.refused("\n".join([*good[:at - 1], line, *good[at - 1:]]) + "\n", at)
        for line in ("calendar", "calendar  bank", " calendar bank", "calendar bank ", "calendar court", "calendar bank within mint",
                     "calendar bank run 0", "calendar bank run 1000001", "calendar bank known 3 to 2", "", "x",
                     "calendar bank known 0 to 9 closed 1..2 3..4"):
            self.refused("\n".join([good[0], line, *good[1:]]), 2)

    def test_places(self):
        calendar, event, other, rule = TEXT.splitlines()
        for lines, line in (
            ([event, calendar, rule], 2), ([calendar, rule, event], 3), ([calendar, event, rule, other], 4),
            ([calendar, event, rule, calendar], 4), ([rule, event], 2), ([calendar, calendar], 2),
            ([calendar, event, other, rule, ""], 5), (["", calendar], 1),
        ):
            self.refused("\n".join(lines) + "\n", line)
        many = [f"calendar c{k}" for k in range(7)]
        self.refused("\n".join([*many, event, other, rule]), 7)
        self.assertEqual(len(read_book("\n".join([*many[:5], calendar, event, other, rule]))[0]), 6)

    def test_errors_of_books(self):
        calendar, event, other, rule = TEXT.splitlines()
        for lines in (
            [], [calendar], [calendar, event, other], [event], [calendar, event, rule], [calendar, event, event, other, rule],
            [event, other, rule], [calendar, event, other, rule, rule], [calendar, rule],
            [event, "rule b on b when yes due served"], [event, "rule b on served when called b due served"],
            [event, "rule b on served when filed x due served"], [event, "rule served on served when yes due served"],
            [*[f"event e{k}" for k in range(7)], "rule b on e1 when yes due e1"],
            [event, *[f"rule r{k} on served when yes due served" for k in range(7)]],
            [event, *[f"rule r{k} on {f'r{k - 1}' if k else 'served'} when yes due served" for k in range(5)]],
        ):
            with self.assertRaises(NotAllowed):
                read_book("\n".join(lines))
        six = [*[f"event e{k}" for k in range(6)], *[f"rule r{k} on e1 when yes due e1" for k in range(6)]]
        self.assertIsNone(check_book(read_book("\n".join(six))))

    def test_too_large(self):
        deep = "served" + " + 1" * 40
        wide = condition_text(row(201))
        start = "event served\n"
        for when, due in ((wide, "served"), ("yes", deep), (f"{deep} <= served", "served")):
            with self.assertRaises(TooLarge):
                read_book(f"{start}rule b on served when {when} due {due}")
            # A line that is bad comes first, also if its node is too large, but not one behind it.
            self.refused(f"{start}rule b on served when {when} due {due} met", 2)
            self.refused(f"{start}rule b on served when {when} and ?x due {due}", 2)
            self.refused(f"{start}x\nrule b on served when {when} due {due}", 2)
            with self.assertRaises(TooLarge):
                read_book(f"{start}rule b on served when {when} due {due}\nx")
            with self.assertRaises(TooLarge):
                read_book(f"{start}rule b on x when {when} due {due}")
        self.assertIsNone(check_book(read_book(f"{start}rule b on served when {condition_text(row(200))} due {deep[:-4]}")))
        # Conditions that are far too large are told quickly, as `=` has both terms twice.
        term = "served"
        for _ in range(40):
            term = f"if({term} = served, served, served)"
        with self.assertRaises(TooLarge):
            read_book(f"{start}rule b on served when yes due {term}")
        self.refused(f"{start}rule b on served when yes due {term} ?x", 2)
