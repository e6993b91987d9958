"""[1.7] to [1.9], and the section diesnon/worlds.py of the interface."""

import random
import unittest

from diesnon.errors import Missing, NotAllowed
from diesnon.terms import WORDS
from diesnon.worlds import (
    calendar_of, day_of, flag_of, is_world, keeps_rule, keeps_rules, make_world, set_calendar, set_day,
    set_flag,
)
from tests.samples import days_of, some_closed, some_world

BIG = 10 ** 40
WORLD = ((("bank", ()), ("court", ((5, 6),))), (("a", -3), ("court", BIG)), (("late", True), ("z", False)))
BAD_NAMES = ("", "A", "9", "x" * 21, "a b", *WORDS)


class Make(unittest.TestCase):
    def test_order(self):
        calendars = {"court": ((5, 6),), "bank": ()}
        days = {"court": BIG, "a": -3}
        flags = {"z": False, "late": True}
        self.assertEqual(make_world(calendars, days, flags), WORLD)
        self.assertEqual(list(calendars), ["court", "bank"])
        self.assertEqual(make_world({}, {}, {}), ((), (), ()))
        self.assertEqual(make_world({}, {"a1": 1, "a": 2, "b": 3}, {})[1], (("a", 2), ("a1", 1), ("b", 3)))

    def test_later_changes_have_no_effect(self):
        days = {"a": 1}
        world = make_world({}, days, {})
        days["b"] = 2
        self.assertEqual(world, ((), (("a", 1),), ()))

    def test_bad_names(self):
        for name in BAD_NAMES:
            for tables in (({name: ()}, {}, {}), ({}, {name: 1}, {}), ({}, {}, {name: True})):
                with self.assertRaises(NotAllowed):
                    make_world(*tables)

    def test_bad_closed_days(self):
        for closed in (((2, 1),), ((1, 2), (3, 4)), ((5, 6), (1, 2))):
            with self.assertRaises(NotAllowed):
                make_world({"a": (), "court": closed}, {}, {})


class IsWorld(unittest.TestCase):
    def test_good(self):
        dice = random.Random(6)
        for world in (WORLD, ((), (), ()), some_world(dice), ((("a", ()),), (("a", 0),), (("a", False),))):
            self.assertIs(is_world(world), True)

    def test_bad(self):
        for calendars in ((("b", ()), ("a", ())), (("a", ()), ("a", ())), (("A", ()),), (("a", ((1, 0),)),),
                          (("a", ((1, 2), (3, 3))),), (("is", ()),), (("a", ((False, 1),)),)):
            self.assertIs(is_world((calendars, (), ())), False)
        for days in ((("b", 1), ("a", 1)), (("a", 1), ("a", 1)), (("", 1),), (("a", True),)):
            self.assertIs(is_world(((), days, ())), False)
        for flags in ((("b", True), ("a", True)), (("a", True), ("a", False)), (("x y", True),),
                      (("a", 1),), (("a", 0),)):
            self.assertIs(is_world(((), (), flags)), False)

    def test_spoilt(self):
        for at in range(3):
            for other in WORLD[at]:
                spoilt = list(WORLD)
                spoilt[at] = tuple(pair for pair in WORLD[at] if pair != other) + (other, other)
                self.assertIs(is_world(tuple(spoilt)), False)


class Get(unittest.TestCase):
    def test_told(self):
        self.assertEqual(calendar_of(WORLD, "court"), ((5, 6),))
        self.assertEqual(calendar_of(WORLD, "bank"), ())
        self.assertEqual((day_of(WORLD, "a"), day_of(WORLD, "court")), (-3, BIG))
        self.assertIs(flag_of(WORLD, "late"), True)
        self.assertIs(flag_of(WORLD, "z"), False)

    def test_missing(self):
        for get, name in ((calendar_of, "a"), (day_of, "late"), (flag_of, "bank"), (flag_of, "next")):
            with self.assertRaises(Missing) as caught:
                get(WORLD, name)
            self.assertEqual(caught.exception.name, name)


class Set(unittest.TestCase):
    def test_new_and_old_names(self):
        self.assertEqual(set_calendar(WORLD, "bank", ((1, 1),))[0], (("bank", ((1, 1),)), ("court", ((5, 6),))))
        self.assertEqual(set_calendar(WORLD, "c", ())[0], (("bank", ()), ("c", ()), ("court", ((5, 6),))))
        self.assertEqual(set_day(WORLD, "a", 9)[1], (("a", 9), ("court", BIG)))
        self.assertEqual(set_day(WORLD, "b", 9)[1], (("a", -3), ("b", 9), ("court", BIG)))
        self.assertEqual(set_flag(WORLD, "z", True)[2], (("late", True), ("z", True)))
        self.assertEqual(set_flag(WORLD, "zz", True)[2], (("late", True), ("z", False), ("zz", True)))

    def test_the_rest_stays(self):
        self.assertEqual(set_calendar(WORLD, "a", ())[1:], WORLD[1:])
        self.assertEqual(set_day(WORLD, "a", 5)[::2], WORLD[::2])
        self.assertEqual(set_flag(WORLD, "a", True)[:2], WORLD[:2])
        self.assertTrue(is_world(set_flag(WORLD, "a", True)))

    def test_bad_names(self):
        for name in BAD_NAMES:
            for change, told in ((set_calendar, ()), (set_day, 1), (set_flag, True)):
                with self.assertRaises(NotAllowed):
                    change(WORLD, name, told)


class Keeps(unittest.TestCase):
    def world(self, court, bank=()):
        return make_world({"court": court, "bank": bank}, {}, {})

    def test_run(self):
        closed = ((0, 2), (4, 4))
        for run, kept in ((0, True), (1, False), (2, False), (3, True), (1000000, True)):
            self.assertIs(keeps_rule(self.world(closed), ("court", run, "", ())), kept)
        self.assertIs(keeps_rule(self.world(((-BIG, BIG),)), ("court", 0, "", ())), True)
        self.assertIs(keeps_rule(self.world(((-BIG, BIG),)), ("court", 1000000, "", ())), False)
        self.assertIs(keeps_rule(self.world(()), ("court", 1, "", ())), True)

    def test_within(self):
        world = self.world(((0, 5),), ((1, 2),))
        self.assertIs(keeps_rule(world, ("court", 0, "bank", ())), True)
        self.assertIs(keeps_rule(world, ("bank", 0, "court", ())), False)
        self.assertIs(keeps_rule(world, ("bank", 0, "bank", ())), True)

    def test_known(self):
        world = self.world(((0, 5), (8, 9)))
        for known, kept in (((6, 7, ()), True), ((5, 8, ((5, 5), (8, 8))), True), ((0, 5, ((0, 5),)), True),
                            ((0, 5, ((0, 4),)), False), ((-1, 5, ()), False), ((-1, 5, ((0, 5),)), True),
                            ((-1, 5, ((-1, 5),)), False), ((20, 30, ()), True), ((20, 30, ((20, 20),)), False)):
            self.assertIs(keeps_rule(world, ("court", 0, "", known)), kept)

    def test_random(self):
        dice = random.Random(7)
        for _ in range(500):
            court, bank = some_closed(dice, -4, 6, 0.6), some_closed(dice, -4, 6, 0.3)
            first, last = sorted((dice.randint(-6, 8), dice.randint(-6, 8)))
            known = dice.choice(((), (first, last, some_closed(dice, first, last))))
            run, within = dice.randint(0, 4), dice.choice(("", "bank"))
            kept = run == 0 or all(b - a < run for a, b in court)
            kept = kept and (within == "" or days_of(bank) <= days_of(court))
            if known:
                kept = kept and days_of(court) & set(range(first, last + 1)) == days_of(known[2])
            self.assertIs(keeps_rule(self.world(court, bank), ("court", run, within, known)), kept)

    def test_missing(self):
        world = self.world(((0, 5),))
        for rule, name in ((("x", 0, "y", ()), "x"), (("court", 0, "y", ()), "y"), (("court", 1, "y", ()), "y"),
                           (("court", 1, "y", (0, 0, ())), "y"), (("x", 0, "", ()), "x")):
            with self.assertRaises(Missing) as caught:
                keeps_rule(world, rule)
            self.assertEqual(caught.exception.name, name)

    def test_rules(self):
        world = self.world(((0, 1),))
        good, bad = ("court", 2, "", ()), ("court", 1, "", ())
        for rules, kept in (((), True), ((good,), True), ((good, bad), False), ((bad, good), False),
                            ((good, good, ("bank", 0, "", ())), True)):
            self.assertIs(keeps_rules(world, rules), kept)

    def test_rules_missing(self):
        world = self.world(((0, 1),))
        bad = ("court", 1, "", ())
        for rules, name in (((bad, ("x", 0, "", ())), "x"), ((bad, ("court", 0, "y", ()), ("x", 0, "", ())), "y"),
                            ((("z", 0, "y", ()), bad), "z")):
            with self.assertRaises(Missing) as caught:
                keeps_rules(world, rules)
            self.assertEqual(caught.exception.name, name)
