"""[8.1] to [8.3], and the section diesnon/cores.py of the interface."""

import itertools
import random
import unittest

from diesnon.cores import MAX_CHOICES, breaking_sets, least_sets, meeting_sets, suffices
from diesnon.decide import decide
from diesnon.errors import NotAllowed, TooLarge
from tests.pictures import CALENDARS, chain_of_days, small_condition, small_rules

A, B, C, D = (("day", name) for name in "abcd")
YES, NO = ("yes",), ("not", ("yes",))


def all_sets(count):
    return [chosen for size in range(count + 1) for chosen in itertools.combinations(range(count), size)]


def least_of(sets):
    return tuple(one for one in sets if not any(set(other) < set(one) for other in sets))


class Suffices(unittest.TestCase):
    def test_told(self):
        question = ((), (("le", A, B), ("le", B, C), ("le", A, C)), ("le", A, C))
        for chosen, told in (((), False), ((0,), False), ((1,), False), ((2,), True), ((0, 1), True), ((0, 2), True),
                             ((0, 1, 2), True)):
            self.assertIs(suffices(question, chosen), told)
        self.assertIs(suffices(((), (), YES), ()), True)
        self.assertIs(suffices(((), (), NO), ()), False)

    def test_refused(self):
        question = ((), (("le", A, B), ("le", B, C), YES), ("le", A, C))
        for chosen in ((3,), (-1,), (0, 3), (1, 0), (0, 0), (0, 1, 1), (-1, 0), (2, 1, 0), (10 ** 20,)):
            with self.assertRaises(NotAllowed):
                suffices(question, chosen)
        with self.assertRaises(NotAllowed):
            suffices(((), (), ("le", A, chain_of_days(81))), (0,))

    def test_too_large(self):
        question = ((), (("le", A, chain_of_days(81)), YES), YES)
        self.assertIs(suffices(question, (1,)), True)
        self.assertIs(suffices(question, ()), True)
        for chosen in ((0,), (0, 1)):
            with self.assertRaises(TooLarge):
                suffices(question, chosen)

    def test_many_assumptions(self):
        question = ((), tuple(("le", A, ("plus", B, k)) for k in range(30)), ("le", A, ("plus", B, 12)))
        self.assertIs(suffices(question, (12, 29)), True)
        self.assertIs(suffices(question, tuple(range(13, 30))), False)


class Sets(unittest.TestCase):
    def check(self, question):
        """Compares the sets with what each set of assumptions tells for itself."""
        count = len(question[1])
        enough = {chosen: suffices(question, chosen) for chosen in all_sets(count)}
        told, broken = least_sets(question), breaking_sets(question)
        self.assertEqual(told, least_of([chosen for chosen in enough if enough[chosen]]))
        breaking = [chosen for chosen in enough if not enough[tuple(k for k in range(count) if k not in chosen)]]
        self.assertEqual(broken, least_of(breaking))
        self.assertEqual((meeting_sets(told), meeting_sets(broken)), (broken, told))
        self.assertTrue(all(set(one) & set(other) for one in told for other in broken))
        return told

    def test_told(self):
        for assumptions, claim, told, broken in (
            ((("le", A, B), ("le", B, C), ("le", A, C), ("le", C, B)), ("le", A, C), ((2,), (0, 1)), ((0, 2), (1, 2))),
            ((), YES, ((),), ()), ((), NO, (), ((),)), ((YES, YES), NO, (), ((),)), ((YES, NO), YES, ((),), ()),
            ((YES, NO), NO, ((1,),), ((1,),)), ((NO, NO), NO, ((0,), (1,)), ((0, 1),)),
            ((("flag", "f"), ("flag", "g"), ("not", ("flag", "f"))), ("flag", "g"), ((1,), (0, 2)), ((0, 1), (1, 2))),
            ((("flag", "f"), ("flag", "g"), ("flag", "h")), ("and", ("flag", "h"), ("flag", "f")), ((0, 2),), ((0,), (2,))),
            ((("le", A, B), ("le", B, C), ("le", C, D), ("le", A, D), ("le", A, C), ("le", B, D)), ("le", A, D),
             ((3,), (0, 5), (2, 4), (0, 1, 2)), ((0, 2, 3), (0, 3, 4), (2, 3, 5), (1, 3, 4, 5))),
        ):
            question = ((), assumptions, claim)
            self.assertEqual((least_sets(question), breaking_sets(question)), (told, broken))
            self.check(question)

    def test_six_and_seven(self):
        self.assertEqual(MAX_CHOICES, 6)
        six = ((), (YES,) * 5 + (("flag", "f"),), ("flag", "f"))
        self.assertEqual((least_sets(six), breaking_sets(six)), (((5,),), ((5,),)))
        for assumptions in ((YES,) * 7, (NO,) * 7, (("le", A, chain_of_days(81)),) * 7):
            for call in (least_sets, breaking_sets):
                with self.assertRaises(TooLarge):
                    call(((), assumptions, YES))
        for call in (least_sets, breaking_sets):
            with self.assertRaises(TooLarge):
                call(((), (YES,), ("le", A, chain_of_days(81))))

    def test_random(self):
        dice = random.Random(95)
        counts = {}
        for _ in range(120):
            calendars = CALENDARS[:2]
            rules = small_rules(dice, calendars)
            assumptions = tuple(small_condition(dice, dice.randint(1, 2), calendars) for _ in range(dice.randint(0, 6)))
            claim = small_condition(dice, 2, calendars)
            if dice.random() < 0.5 and len(assumptions) > 1:
                claim = ("and", *dice.sample(assumptions, 2))
            try:
                told = self.check((rules, assumptions, claim))
            except TooLarge:
                continue
            counts[len(told)] = counts.get(len(told), 0) + 1
        self.assertGreater(min(counts[0], counts[1]), 10)
        self.assertGreater(sum(counts.values()) - counts[0] - counts[1], 5)

    def test_whole(self):
        question = ((("a", 2, "", ()),), (("le", A, B), ("not", ("is", "a", A))), ("le", A, ("next", "a", B)))
        self.assertEqual(decide(question)[0], "paper")
        self.assertEqual(self.check(question), ((0,),))


class Meeting(unittest.TestCase):
    def test_told(self):
        for sets, told in (
            ((), ((),)), (((),), ()), (((0,), ()), ()), (((2,), (0, 1)), ((0, 2), (1, 2))), (((5,),), ((5,),)),
            (((0, 1, 2, 3, 4, 5),), tuple((k,) for k in range(6))), (((0,), (0, 1)), ((0,),)),
            (((0,), (1,), (2,)), ((0, 1, 2),)), (((0, 1), (1, 2), (2, 0)), ((0, 1), (0, 2), (1, 2))),
            (((0, 1), (0, 1)), ((0,), (1,))), (((3, 4), (4, 5), (3,)), ((3, 4), (3, 5))),
        ):
            self.assertEqual(meeting_sets(sets), told)

    def test_random(self):
        dice = random.Random(96)
        for _ in range(200):
            sets = tuple(tuple(sorted(dice.sample(range(6), dice.randint(1, 4)))) for _ in range(dice.randint(0, 6)))
            meeting = [one for one in all_sets(6) if all(set(one) & set(other) for other in sets)]
            told = meeting_sets(sets)
            self.assertEqual(told, least_of(meeting))
            self.assertEqual(told, tuple(sorted(told, key=lambda one: (len(one), one))))
            self.assertEqual(set(meeting_sets(told)), set(least_of(sorted(set(sets)))))
