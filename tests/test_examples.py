"""The examples of the interface."""

import doctest
import unittest

EXAMPLES = {
    "stretches": """
>>> from diesnon.stretches import closed_days, count_open, inside, next_open, nth_open, prev_open
>>> closed = closed_days([(5, 6), (12, 13), (7, 8)])
>>> closed
((5, 8), (12, 13))
>>> next_open(closed, 6), prev_open(closed, 6), next_open(closed, 9)
(9, 4, 9)
>>> nth_open(closed, 4, 1), nth_open(closed, 6, 4), nth_open(closed, 14, -1), nth_open(closed, 9, -1)
(9, 14, 11, 4)
>>> count_open(closed, 4, 10), inside(closed, ((6, 7),)), inside(((6, 7),), closed)
(2, True, False)
""",
    "worlds": """
>>> from diesnon.worlds import keeps_rule, make_world, set_day
>>> world = make_world({"court": ((5, 6),), "bank": ()}, {"x": 3}, {"late": True})
>>> world
((('bank', ()), ('court', ((5, 6),))), (('x', 3),), (('late', True),))
>>> set_day(world, "a", 9)[1]
(('a', 9), ('x', 3))
>>> keeps_rule(world, ("court", 2, "bank", ())), keeps_rule(world, ("bank", 0, "court", ()))
(True, False)
>>> keeps_rule(world, ("court", 0, "", (0, 5, ((5, 5),)))), keeps_rule(world, ("court", 0, "", (0, 9, ())))
(True, False)
""",
}


class Examples(unittest.TestCase):
    def test_examples(self):
        for name, text in EXAMPLES.items():
            test = doctest.DocTestParser().get_doctest(text, {}, name, None, 0)
            told = doctest.DocTestRunner(verbose=False).run(test)
            self.assertEqual(told.failed, 0)
            self.assertGreater(told.attempted, 0)
