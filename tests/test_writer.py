"""[2.7], [2.8], [2.11], and the section diesnon/writer.py of the interface."""

import random
import unittest

from diesnon.reader import read_case_condition, read_case_term, read_condition, read_question, read_term
from diesnon.writer import condition_text, question_text, term_text
from tests.samples import chain, row, some_condition, some_question, some_term

X, Y = ("day", "x"), ("day", "y")
A, B, C = ("flag", "a"), ("flag", "b"), ("flag", "c")
YES = ("yes",)


class Terms(unittest.TestCase):
    def test_plain_text(self):
        for term, text in (
            (X, "x"), (("at", 0), "@0"), (("at", -14), "@-14"), (("at", 1000000), "@1000000"),
            (("plus", X, 3), "x + 3"), (("plus", X, -3), "x - 3"), (("plus", X, 0), "x + 0"),
            (("plus", ("plus", X, -1), 2), "x - 1 + 2"), (("plus", ("at", -1), -2), "@-1 - 2"),
            (("next", "c", X), "next c(x)"), (("prev", "c", ("plus", X, 1)), "prev c(x + 1)"),
            (("nth", "c", X, 3), "open c 3(x)"), (("nth", "c", X, -6), "open c -6(x)"),
            (("later", X, Y), "later(x, y)"), (("earlier", X, ("later", Y, X)), "earlier(x, later(y, x))"),
            (("if", YES, X, ("plus", Y, 1)), "if(yes, x, y + 1)"),
            (("if", ("or", A, ("le", X, Y)), X, Y), "if(?a or x <= y, x, y)"),
            (("plus", ("next", "c", ("prev", "d", X)), 9), "next c(prev d(x)) + 9"),
            (("plus", ("due", "r"), 1), "due r + 1"), (("next", "c", ("due", "r")), "next c(due r)"),
        ):
            self.assertEqual(term_text(term), text)


class Conditions(unittest.TestCase):
    def test_plain_text(self):
        for condition, text in (
            (YES, "yes"), (A, "?a"), (("le", X, Y), "x <= y"), (("is", "c", X), "is c(x)"),
            (("le", ("plus", X, 1), ("at", -3)), "x + 1 <= @-3"), (("not", A), "not ?a"),
            (("not", ("not", A)), "not not ?a"), (("not", ("le", X, Y)), "not x <= y"),
            (("not", ("and", A, B)), "not [?a and ?b]"), (("not", ("or", A, B)), "not [?a or ?b]"),
            (("and", ("and", A, B), C), "?a and ?b and ?c"), (("and", A, ("and", B, C)), "?a and [?b and ?c]"),
            (("or", ("or", A, B), C), "?a or ?b or ?c"), (("or", A, ("or", B, C)), "?a or [?b or ?c]"),
            (("or", ("and", A, B), C), "?a and ?b or ?c"), (("or", A, ("and", B, C)), "?a or ?b and ?c"),
            (("and", ("or", A, B), C), "[?a or ?b] and ?c"), (("and", A, ("or", B, C)), "?a and [?b or ?c]"),
            (("and", ("not", A), ("not", ("or", A, B))), "not ?a and not [?a or ?b]"),
            (("or", ("not", ("and", A, B)), YES), "not [?a and ?b] or yes"),
            (("called", "r"), "called r"), (("not", ("missed", "r")), "not missed r"),
            (("and", ("filed", "e"), ("le", ("due", "r"), X)), "filed e and due r <= x"),
        ):
            self.assertEqual(condition_text(condition), text)


class ReadBack(unittest.TestCase):
    def test_random(self):
        dice = random.Random(8)
        for _ in range(300):
            term, condition = some_term(dice, 5), some_condition(dice, 6)
            self.assertEqual(read_term(term_text(term)), term)
            self.assertEqual(read_condition(condition_text(condition)), condition)

    def test_random_cases(self):
        dice = random.Random(9)
        for _ in range(300):
            term, condition = some_term(dice, 5, True), some_condition(dice, 6, True)
            self.assertEqual(read_case_term(term_text(term)), term)
            self.assertEqual(read_case_condition(condition_text(condition)), condition)

    def test_all_small_rows(self):
        parts = [A, ("not", B), ("and", A, B), ("or", A, B), ("not", ("and", A, B)), ("not", ("or", B, A))]
        for first in parts:
            for second in parts:
                for word in ("and", "or"):
                    node = (word, first, second)
                    for condition in (node, ("not", node), ("and", node, C), ("or", C, node), (word, node, node)):
                        self.assertEqual(read_condition(condition_text(condition)), condition)

    def test_deep(self):
        deep = YES
        for k in range(19):
            deep = ("not", ("or", A, deep)) if k % 2 else ("not", ("and", A, deep))
        for condition in (deep, ("not", row(200)), ("le", X, chain(39))):
            self.assertEqual(read_condition(condition_text(condition)), condition)

    def test_beyond_the_limits(self):
        self.assertEqual(term_text(chain(600)), "x" + " + 1" * 599)


class Questions(unittest.TestCase):
    def test_lines(self):
        rules = (("court", 4, "", ()), ("bank", 6, "court", (0, 30, ((5, 6), (12, 13)))),
                 ("c", 0, "bank", (-5, 0, ())), ("d", 0, "", (-1000000, 1000000, ((-7, -7),))), ("e", 0, "", ()))
        question = (rules, (("le", X, Y), ("not", A)), ("or", A, B))
        self.assertEqual(question_text(question), (
            "calendar court run 4\n"
            "calendar bank run 6 within court known 0 to 30 closed 5..6 12..13\n"
            "calendar c within bank known -5 to 0\n"
            "calendar d known -1000000 to 1000000 closed -7..-7\n"
            "calendar e\n"
            "assume x <= y\n"
            "assume not ?a\n"
            "claim ?a or ?b\n"))
        self.assertEqual(question_text(((), (), YES)), "claim yes\n")

    def test_read_back(self):
        dice = random.Random(10)
        for _ in range(200):
            question = some_question(dice)
            self.assertEqual(read_question(question_text(question)), question)
