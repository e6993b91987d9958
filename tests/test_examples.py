"""The examples of the interface."""

import doctest
import unittest

DOCKET = """
>>> from diesnon.docket import Docket
>>> rule = ("answer", "served", ("yes",), ("next", "court", ("plus", ("day", "served"), 3)), "reply")
>>> book = ((("court", 2, "", ()),), ("served", "reply"), (rule,))
>>> docket = Docket(book, 0)
>>> docket.publish("court", 6, ((5, 6),))
>>> docket.advance(2)
>>> docket.file("served", 2)
>>> docket.rules(), docket.filings()
((('court', 2, '', (0, 6, ((5, 6),))),), (('served', 2),))
"""
EXAMPLES = {
    "stretches": """
>>> from diesnon.stretches import closed_days, count_open, inside, next_open, nth_open, prev_open
>>> closed = closed_days([(5, 6), (12, 13), (7, 8)])
>>> closed
((5, 8), (12, 13))
>>> next_open(closed, 6), prev_open(closed, 6), next_open(closed, 9)
(9, 4, 9)
>>> nth_open(closed, 4, 1), nth_open(closed, 6, 4), nth_open(closed, 14, -1), nth_open(closed, 9, -1)
(9, 14, 11, 4)
>>> count_open(closed, 4, 10), inside(closed, ((6, 7),)), inside(((6, 7),), closed)
(2, True, False)
""",
    "worlds": """
>>> from diesnon.worlds import keeps_rule, make_world, set_day
>>> world = make_world({"court": ((5, 6),), "bank": ()}, {"x": 3}, {"late": True})
>>> world
((('bank', ()), ('court', ((5, 6),))), (('x', 3),), (('late', True),))
>>> set_day(world, "a", 9)[1]
(('a', 9), ('x', 3))
>>> keeps_rule(world, ("court", 2, "bank", ())), keeps_rule(world, ("bank", 0, "court", ()))
(True, False)
>>> keeps_rule(world, ("court", 0, "", (0, 5, ((5, 5),)))), keeps_rule(world, ("court", 0, "", (0, 9, ())))
(True, False)
""",
    "reader": """
>>> from diesnon.reader import read_condition, read_term
>>> read_term("next court(served + 14) - 1")
('plus', ('next', 'court', ('plus', ('day', 'served'), 14)), -1)
>>> read_condition("not a < @-3 or ?late and yes")
('or', ('not', ('le', ('plus', ('day', 'a'), 1), ('at', -3))), ('and', ('flag', 'late'), ('yes',)))
""",
    "rings": """
>>> from diesnon.rings import find_ring, is_ring, satisfies
>>> is_ring(find_ring(3, [(1, 0, 5), (0, 1, -6), (2, 1, 4)])), find_ring(2, [(1, 0, 5), (0, 1, -5)])
(True, None)
>>> is_ring(((4, 4, -1),)), is_ring(((1, 0, 5), (0, 1, -5)))
(True, False)
>>> satisfies((0, 5, 7), [(1, 0, 5), (2, 1, 4)])
True
""",
    "bounds": """
>>> from diesnon.bounds import Bounds
>>> bounds = Bounds(3)
>>> bounds.add(1, 0, 5), bounds.add(2, 1, 4), bounds.add(0, 2, -10), bounds.add(0, 2, -9)
(True, True, False, True)
>>> bounds.bound(2, 0), bounds.bound(0, 1), bounds.literals()
(9, -5, [(1, 0, 5), (2, 1, 4), (0, 2, -9)])
>>> bounds.any_values()
(0, 5, 9)
""",
    "points": """
>>> from diesnon.points import points, values_of
>>> question = ((("court", 0, "", ()),), (), ("le", ("next", "court", ("day", "x")), ("at", 9)))
>>> sorted(points(question))
[('day', 'x'), ('next', 'court', 1), ('origin',), ('plus', 0, 9)]
>>> sorted(values_of(points(question), ((("court", ((5, 7),)),), (("x", 6),), ())))
[0, 6, 8, 9]
""",
    "clauses": """
>>> from diesnon.clauses import clauses
>>> from diesnon.literals import all_hold, denial
>>> denial((1, 2, 5))
(2, 1, -6)
>>> question = ((("court", 0, "", ()),), (), ("yes",))
>>> clauses(question)
(((0, 0, -1),),)
>>> all_hold(clauses(question), (0,))
False
""",
    "papers": """
>>> from diesnon.papers import check_paper, trimmed, used_clauses, weight
>>> clauses = [((1, 0, -1), (1, 0, -2)), ((0, 1, 0),), ((1, 0, 7),)]
>>> paper = ("cases", 0, (("ring", ((1, 0, -1), (0, 1, 0))), ("ring", ((1, 0, -2), (0, 1, 0)))))
>>> check_paper(2, clauses, paper), weight(paper), used_clauses(2, clauses, paper)
(True, 3, [0, 1])
>>> check_paper(2, clauses, ("ring", ((1, 0, -1), (0, 1, 0)))), trimmed(2, clauses, paper) == paper
(False, True)
""",
    "search": """
>>> from diesnon.search import solve
>>> solve(2, [((1, 0, -3), (0, 1, -3)), ((1, 0, 5),), ((0, 1, -5),)])
('values', (0, 5))
>>> solve(1, [()])
('paper', ('cases', 0, ()))
""",
    "realize": """
>>> from diesnon.realize import realize
>>> realize(((("court", 0, "", ()),), (), ("not", ("yes",))), [4])
((('court', ()),), (), ())
""",
    "decide": """
>>> from diesnon.decide import decide, verdict
>>> x = ("day", "x")
>>> rules = (("court", 2, "", ()),)
>>> verdict((rules, (), ("le", x, ("next", "court", x))))
'always'
>>> verdict((rules, (), ("le", ("next", "court", x), ("plus", x, 1))))
'open'
>>> verdict((rules, (), ("le", ("next", "court", x), ("plus", x, 2))))
'always'
>>> decide((rules, (), ("le", ("next", "court", x), ("plus", x, 2))))[0]
'paper'
""",
    "extremes": """
>>> from diesnon.extremes import greatest, span
>>> x = ("day", "x")
>>> rules = (("court", 2, "", ()),)
>>> greatest(rules, (), ("next", "court", ("plus", x, 3)), x)[:2]
('most', 5)
>>> span(rules, (), ("next", "court", ("plus", x, 3)), x), span(rules, (), x, ("day", "y"))
((3, 5), (None, None))
>>> greatest((("court", 0, "", ()),), (), ("next", "court", x), x)
('endless',)
""",
    "families": """
>>> from diesnon.families import critical_run, orders, tolerance
>>> x, y = ("day", "x"), ("day", "y")
>>> question = ((("court", 0, "", ()),), (), ("le", ("next", "court", x), ("plus", x, 4)))
>>> critical_run(question, "court")[:2]
('from', 5)
>>> orders((), (("le", x, y),), x, y)
('before', 'same')
>>> tolerance((("court", 3, "", ()),), (("le", x, y),), 0, ("le", ("next", "court", x), ("plus", y, 10)))[:2]
('most', 7)
""",
    "cores": """
>>> from diesnon.cores import breaking_sets, least_sets, meeting_sets
>>> a, b, c = ("day", "a"), ("day", "b"), ("day", "c")
>>> question = ((), (("le", a, b), ("le", b, c), ("le", a, c), ("le", c, b)), ("le", a, c))
>>> least_sets(question), breaking_sets(question)
(((2,), (0, 1)), ((0, 2), (1, 2)))
>>> meeting_sets(((2,), (0, 1)))
((0, 2), (1, 2))
""",
    "reasons": """
>>> from diesnon.reasons import all_reasons, looks, reason
>>> world = ((("court", ((5, 6),)),), (("x", 5),), ())
>>> term = ("next", "court", ("day", "x"))
>>> looks(world, term)
(('closed', 'court', 5), ('closed', 'court', 6), ('day', 'x', 5), ('open', 'court', 7))
>>> reason((("court", 2, "", ()),), world, term)
(('closed', 'court', 5), ('closed', 'court', 6), ('day', 'x', 5))
>>> all_reasons((), world, ("later", term, ("at", 9)))
((('day', 'x', 5), ('open', 'court', 7)),)
""",
    "books": """
>>> from diesnon.books import outcomes
>>> first = ("answer", "served", ("yes",), ("next", "court", ("plus", ("day", "served"), 3)), "reply")
>>> second = ("default", "answer", ("yes",), ("plus", ("day", "answer"), 2), "")
>>> book = ((("court", 0, "", ()),), ("served", "reply"), (first, second))
>>> outcomes(book, ((("court", ((13, 14),)),), (("served", 10),)))
(('answer', True, 15, False, True), ('default', True, 18, False, True))
>>> outcomes(book, ((("court", ((13, 14),)),), (("reply", 15), ("served", 10))))
(('answer', True, 15, True, False), ('default', False, None, False, False))
""",
    "allcases": """
>>> from diesnon.allcases import always
>>> rule = ("answer", "served", ("yes",), ("next", "court", ("plus", ("day", "served"), 3)), "reply")
>>> book = ((("court", 2, "", ()),), ("served", "reply"), (rule,))
>>> always(book, (), ("or", ("not", ("called", "answer")), ("le", ("due", "answer"), ("plus", ("day", "served"), 5))))[0]
'paper'
>>> always(book, (), ("or", ("not", ("called", "answer")), ("le", ("due", "answer"), ("plus", ("day", "served"), 4))))[0]
'history'
>>> always(book, (("filed", "served"),), ("called", "answer"))[0]
'paper'
""",
    "compare": """
>>> from diesnon.compare import alike
>>> yes = ("yes",)
>>> day = ("plus", ("day", "served"), 1)
>>> calendars = (("court", 0, "", ()),)
>>> book = (calendars, ("served",), (("answer", "served", yes, ("next", "court", day), ""),))
>>> other = (calendars, ("served",), (("answer", "served", yes, ("nth", "court", ("day", "served"), 1), ""),))
>>> alike(book, other)[0]
'alike'
""",
    "docket": DOCKET,
    "futures": DOCKET + """
>>> from diesnon.futures import due_span, fixed, status
>>> fixed(docket, "answer"), status(docket, "answer")
(7, ('certain', 'open'))
>>> docket.correct("served", 1)
>>> due_span(docket, "answer")[:3]
('span', 4, 4)
""",
    "image": DOCKET + """
>>> docket.correct("served", 1)
>>> from diesnon.image import docket_text
>>> docket_text(docket)
'begin 0\\npublish court 6 closed 5..6\\nadvance 2\\nfile served 2\\ncorrect served 1\\n'
""",
    "booktexts": """
>>> from diesnon.booktexts import book_text, read_book
>>> book = read_book("calendar court run 2\\nevent served\\nrule answer on served when ?x due @3\\n")
Traceback (most recent call last):
    ...
diesnon.errors.BadForm: line 3 is not of its form
>>> book = read_book("event served\\nrule answer on served when yes due served+3")
>>> book
((), ('served',), (('answer', 'served', ('yes',), ('plus', ('day', 'served'), 3), ''),))
>>> book_text(book)
'event served\\nrule answer on served when yes due served + 3\\n'
""",
}


class Examples(unittest.TestCase):
    def test_examples(self):
        for name, text in EXAMPLES.items():
            test = doctest.DocTestParser().get_doctest(text, {}, name, None, 0)
            told = doctest.DocTestRunner(verbose=False).run(test)
            self.assertEqual(told.failed, 0)
            self.assertGreater(told.attempted, 0)
