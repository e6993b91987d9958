"""[2.1] to [2.5], [2.10], [2.11], and the section diesnon/terms.py of the interface."""

import random
import unittest

from diesnon import terms
from diesnon.errors import NotAllowed, TooLarge
from diesnon.terms import (
    WORDS, check_condition, check_question, check_term, depth_of, is_name, names_of, size_of, with_days,
)
from tests.samples import chain, row, some_condition, some_question, some_term, spoilt_nodes

X = ("day", "x")
YES = ("yes",)
CASES = (("called", "r"), ("missed", "r"), ("filed", "e"))
JUNK = ("", "A", "next", "day", 0, 7, 1000001, True, (), ("yes",), ("day", "x"), (0,))


def plain_is_node(node, kind):
    """[2.2] and [2.3], told once more, by recursion."""
    def term(part):
        return plain_is_node(part, "term")

    def condition(part):
        return plain_is_node(part, "condition")

    def name(part):
        return isinstance(part, str) and is_name(part)

    def number(part):
        return type(part) is int and -1000000 <= part <= 1000000

    def count(part):
        return type(part) is int and part in (-6, -5, -4, -3, -2, -1, 1, 2, 3, 4, 5, 6)

    forms = {
        "term": {
            "day": (name,), "at": (number,), "plus": (term, number), "next": (name, term),
            "prev": (name, term), "nth": (name, term, count), "later": (term, term),
            "earlier": (term, term), "if": (condition, term, term),
        },
        "condition": {
            "le": (term, term), "is": (name, term), "flag": (name,), "yes": (), "not": (condition,),
            "and": (condition, condition), "or": (condition, condition),
        },
    }
    if not isinstance(node, tuple) or not node or not isinstance(node[0], str):
        return False
    form = forms[kind].get(node[0])
    if form is None or len(form) != len(node) - 1:
        return False
    return all(good(part) for good, part in zip(form, node[1:]))


class Constants(unittest.TestCase):
    def test_numbers(self):
        told = (terms.MAX_NODES, terms.MAX_DEPTH, terms.MAX_NUMBER, terms.MAX_COUNT)
        self.assertEqual(told, (400, 40, 1000000, 6))
        self.assertEqual((terms.MAX_RULES, terms.MAX_ASSUMPTIONS), (6, 30))

    def test_words(self):
        self.assertEqual(WORDS, tuple(
            "next prev open later earlier if is not and or yes calendar run within known to closed "
            "assume claim event rule on when due met called missed filed".split()))


class Names(unittest.TestCase):
    def test_good(self):
        for text in ("a", "z9", "court", "x" * 20, "a" + "0" * 19, "day", "at", "le", "nth", "plus",
                     "flag", "nexts", "next1", "until", "world"):
            self.assertIs(is_name(text), True)

    def test_bad(self):
        for text in ("", "x" * 21, "9a", "A", "aB", "a b", " a", "a_", "a-b", "@a", "0", "a."):
            self.assertIs(is_name(text), False)

    def test_words_are_none(self):
        for word in WORDS:
            self.assertIs(is_name(word), False)


class Checks(unittest.TestCase):
    def refused(self, check, node, error=NotAllowed):
        with self.assertRaises(error):
            check(node)

    def test_good_terms(self):
        for term in (X, ("at", 0), ("at", 1000000), ("at", -1000000), ("plus", X, -1000000),
                     ("next", "c", X), ("prev", "c", X), ("nth", "c", X, 6), ("nth", "c", X, -6),
                     ("nth", "c", X, 1), ("later", X, X), ("earlier", X, X), ("if", YES, X, ("at", 3))):
            self.assertIsNone(check_term(term))
            self.refused(check_condition, term)

    def test_good_conditions(self):
        for condition in (YES, ("le", X, X), ("is", "c", X), ("flag", "f"), ("not", YES),
                          ("and", YES, YES), ("or", YES, YES)):
            self.assertIsNone(check_condition(condition))
            self.refused(check_term, condition)

    def test_bad_terms(self):
        for term in ((), "x", 5, ("day",), ("day", "next"), ("day", "x", "x"), ("day", 5), ("day", X),
                     ("at", 1000001), ("at", -1000001), ("at", "5"), ("at", True), ("at", X), ("at",),
                     ("plus", X, 1000001), ("plus", 1, X), ("plus", X), ("plus", X, X),
                     ("next", "c"), ("next", "C", X), ("next", X, "c"), ("next", "c", YES),
                     ("nth", "c", X, 0), ("nth", "c", X, 7), ("nth", "c", X, -7), ("nth", "c", X),
                     ("nth", "c", X, True), ("later", X), ("later", X, X, X), ("later", X, YES),
                     ("if", X, X, X), ("if", YES, X), ("if", YES, YES, X), ("open", "c", X),
                     (("day",), "x"), ((), ()), (X,), ("",), (5, 5), ("due", "r")):
            self.refused(check_term, term)
            self.refused(check_condition, ("le", term, X))

    def test_bad_conditions(self):
        for condition in ((), "yes", 1, ("yes", "yes"), ("le", X), ("le", X, YES), ("le", X, X, X),
                          ("is", X), ("is", "is", X), ("flag",), ("flag", ""), ("not",), ("not", X),
                          ("not", YES, YES), ("and", YES), ("or", YES, X), ("lt", X, X), *CASES):
            self.refused(check_condition, condition)
            self.refused(check_term, ("if", condition, X, X))

    def test_spoilt(self):
        dice = random.Random(3)
        for _ in range(12):
            for kind, node, check in (("term", some_term(dice, 4), check_term),
                                      ("condition", some_condition(dice, 4), check_condition)):
                check(node)
                for other in spoilt_nodes(node, JUNK):
                    if plain_is_node(other, kind):
                        check(other)
                    else:
                        self.refused(check, other)

    def test_case_nodes_are_refused(self):
        self.refused(check_term, ("plus", ("due", "r"), 1))
        for condition in CASES:
            self.refused(check_condition, ("or", YES, ("not", condition)))

    def test_depth(self):
        self.assertIsNone(check_term(chain(40)))
        self.refused(check_term, chain(41), TooLarge)
        self.assertIsNone(check_condition(("le", chain(39), X)))
        self.refused(check_condition, ("le", X, chain(40)), TooLarge)

    def test_size(self):
        full = ("not", row(200))
        self.assertEqual(size_of(full), 400)
        self.assertIsNone(check_condition(full))
        self.refused(check_condition, row(201), TooLarge)
        self.refused(check_condition, row(5000), TooLarge)

    def test_not_allowed_before_too_large(self):
        self.refused(check_condition, ("and", row(3000), ("le", X, ("at", 1000001))))
        self.refused(check_condition, ("and", ("and", YES), row(3000)))
        self.refused(check_term, ("plus", chain(58), True))
        self.refused(check_term, ("next", "next", chain(59)))
        self.refused(check_term, ("next", "court", chain(59)), TooLarge)


class Questions(unittest.TestCase):
    def refused(self, question, error=NotAllowed):
        with self.assertRaises(error):
            check_question(question)

    def test_good(self):
        dice = random.Random(4)
        for _ in range(100):
            self.assertIsNone(check_question(some_question(dice, 3)))
        self.assertIsNone(check_question(((), (), YES)))

    def test_rules(self):
        first = ("court", 0, "", ())
        for rule in (("bank", 1000000, "", ()), ("bank", 1, "court", ()),
                     ("bank", 0, "", (0, 0, ())), ("bank", 0, "", (0, 0, ((0, 0),))),
                     ("bank", 0, "", (-1000000, 1000000, ((-1000000, 0), (2, 1000000)))),
                     ("bank", 2, "court", (3, 9, ((3, 4), (7, 9))))):
            self.assertIsNone(check_question(((first, rule), (), YES)))

    def test_bad_rules(self):
        first = ("court", 0, "", ())
        for rule in (("court", 1, "", ()), ("Bank", 0, "", ()), ("known", 0, "", ()), ("", 0, "", ()),
                     ("bank", -1, "", ()), ("bank", 1000001, "", ()), ("bank", True, "", ()),
                     ("bank", 0, "bank", ()), ("bank", 0, "other", ()), ("bank", 0, "next", ()),
                     ("bank", 0, "", (-1000001, 0, ())), ("bank", 0, "", (0, 1000001, ())),
                     ("bank", 0, "", (0, 5, ((5, 6),))), ("bank", 0, "", (0, 5, ((-1, 2),))),
                     ("bank", 0, "", (0, 9, ((1, 2), (3, 4)))), ("bank", 0, "", (0, 9, ((4, 3),))),
                     ("bank", 0, "", (0, 9, ((5, 6), (1, 2)))), ("bank", 0, "", (False, 9, ())),
                     ("bank", 0, "", (9, 0, ((5, 6),))), ("bank", 0, "", (9, 0, ())), ("bank", 0, "", (0, 9))):
            self.refused(((first, rule), (), YES))

    def test_within_needs_an_earlier_rule(self):
        inner, outer = ("bank", 0, "court", ()), ("court", 0, "", ())
        self.assertIsNone(check_question(((outer, inner), (), YES)))
        self.refused(((inner, outer), (), YES))

    def test_numbers_of_rules_and_assumptions(self):
        rules = tuple((f"c{k}", 0, "", ()) for k in range(7))
        self.assertIsNone(check_question((rules[:6], (YES,) * 30, YES)))
        self.refused((rules, (), YES))
        self.refused(((), (YES,) * 31, YES))

    def test_bad_conditions(self):
        for node in (X, (), "yes", 1, ("not", X), *CASES):
            self.refused(((), (), node))
            self.refused(((), (YES, node), YES))

    def test_sizes(self):
        full = ("not", row(200))
        self.assertIsNone(check_question(((), (full, full), full)))
        for node in (row(201), ("le", X, chain(40))):
            self.refused(((), (YES, node), YES), TooLarge)
            self.refused(((), (), node), TooLarge)

    def test_not_allowed_before_too_large(self):
        self.refused(((), (row(300), X), YES))
        self.refused(((), (row(300),), X))
        self.refused(((("court", -1, "", ()),), (row(300),), row(300)))
        self.refused(((), (row(300),) * 31, YES))


class Sizes(unittest.TestCase):
    def test_small(self):
        for node, size, depth in ((X, 1, 1), (YES, 1, 1), (("plus", X, 3), 2, 2), (("later", X, X), 3, 2),
                                  (("if", ("le", X, X), X, ("next", "c", X)), 7, 3),
                                  (("nth", "c", ("at", 5), 2), 2, 2), (("flag", "f"), 1, 1),
                                  (("not", ("is", "c", X)), 3, 3), (("due", "r"), 1, 1),
                                  (("or", ("filed", "e"), ("le", ("due", "r"), X)), 5, 3)):
            self.assertEqual((size_of(node), depth_of(node)), (size, depth))

    def test_random(self):
        def size(node):
            return 1 + sum(size(part) for part in node[1:] if isinstance(part, tuple))

        def depth(node):
            return 1 + max([depth(part) for part in node[1:] if isinstance(part, tuple)], default=0)

        dice = random.Random(5)
        for _ in range(100):
            node = some_condition(dice, 7, True)
            self.assertEqual((size_of(node), depth_of(node)), (size(node), depth(node)))

    def test_beyond_the_limits(self):
        self.assertEqual((size_of(chain(600)), depth_of(chain(600))), (600, 600))
        self.assertEqual(size_of(row(3000)), 5999)


class NodeNames(unittest.TestCase):
    def test_names(self):
        node = ("if", ("and", ("flag", "b"), ("flag", "a")), ("next", "court", ("day", "y")),
                ("nth", "bank", ("later", X, X), 1))
        self.assertEqual(names_of(node), (["x", "y"], ["bank", "court"], ["a", "b"]))

    def test_all_words_that_name_calendars(self):
        for node in (("next", "c", X), ("prev", "c", X), ("nth", "c", X, 1), ("is", "c", X)):
            self.assertEqual(names_of(node), (["x"], ["c"], []))

    def test_same_name_in_several(self):
        node = ("and", ("flag", "x"), ("is", "x", X))
        self.assertEqual(names_of(node), (["x"], ["x"], ["x"]))

    def test_none(self):
        self.assertEqual(names_of(YES), ([], [], []))
        self.assertEqual(names_of(("or", ("called", "r"), ("le", ("due", "q"), ("at", 1)))), ([], [], []))
        self.assertEqual(names_of(("and", ("missed", "r"), ("filed", "e"))), ([], [], []))

    def test_lists_are_new(self):
        names_of(X)[0].append("z")
        self.assertEqual(names_of(X), (["x"], [], []))


class WithDays(unittest.TestCase):
    def test_place(self):
        y = ("day", "y")
        node = ("le", ("plus", X, 1), ("later", y, ("if", ("is", "x", X), ("at", 2), ("nth", "x", X, -1))))
        table = {"x": ("plus", y, 5)}
        p = ("plus", y, 5)
        self.assertEqual(with_days(node, table), (
            "le", ("plus", p, 1), ("later", y, ("if", ("is", "x", p), ("at", 2), ("nth", "x", p, -1)))))
        self.assertEqual(table, {"x": ("plus", y, 5)})

    def test_all_at_once(self):
        y = ("day", "y")
        self.assertEqual(with_days(("later", X, y), {"x": y, "y": X}), ("later", y, X))
        self.assertEqual(with_days(X, {"x": ("plus", X, 1)}), ("plus", X, 1))

    def test_other_names_stay(self):
        for node in (("flag", "x"), ("due", "x"), ("called", "x"), ("missed", "x"), ("filed", "x"), YES):
            self.assertEqual(with_days(node, {"x": ("at", 1)}), node)
        self.assertEqual(with_days(X, {}), X)

    def test_case_nodes(self):
        node = ("or", ("filed", "x"), ("le", ("due", "x"), X))
        told = ("or", ("filed", "x"), ("le", ("due", "x"), ("due", "r")))
        self.assertEqual(with_days(node, {"x": ("due", "r")}), told)

    def test_limits(self):
        self.assertEqual(depth_of(with_days(chain(20), {"x": chain(21)})), 40)
        with self.assertRaises(TooLarge):
            with_days(chain(20), {"x": chain(22)})
        wide = X
        for _ in range(7):
            wide = ("later", wide, wide)
        self.assertEqual(size_of(with_days(wide, {"x": ("plus", X, 1)})), 127 + 256)
        with self.assertRaises(TooLarge):
            with_days(wide, {"x": ("plus", ("plus", X, 1), 1)})
        exact = ("not", ("and", row(99), ("le", X, X)))
        self.assertEqual(size_of(exact), 1 + 1 + 197 + 3)
        self.assertEqual(size_of(with_days(exact, {"x": ("if", row(48), X, X)})), 200 + 2 * 98)
        self.assertEqual(size_of(with_days(("not", exact), {"x": ("if", row(48), X, ("plus", X, 1))})), 399)
