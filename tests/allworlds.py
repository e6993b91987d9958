"""All worlds of questions about one calendar and two days that are bounded, tried one by one."""

import itertools

from diesnon.stretches import longest
from diesnon.worlds import make_world
from tests.samples import closed_of

X, Y = ("day", "x"), ("day", "y")
LAST = 2
# Both days are from 0 to LAST.
BOUNDED = tuple(condition for day in (X, Y) for condition in (("le", ("at", 0), day), ("le", day, ("at", LAST))))


def bounded_worlds(run):
    """All worlds that matter for terms of `near_term`: they look at the days from -3 to 6 only."""
    calendars = [closed_of([day for day, shut in zip(range(-3, 7), row) if shut])
                 for row in itertools.product((False, True), repeat=10)]
    return [make_world({"court": closed}, {"x": x, "y": y}, {"f": flag})
            for closed in calendars if longest(closed) <= run
            for x in range(LAST + 1) for y in range(LAST + 1) for flag in (False, True)]


def near_term(dice):
    """A term with at most one step over the calendar, whose run is at most 2, from a day near x or y."""
    term = dice.choice((X, Y))
    if dice.random() < 0.5:
        term = ("plus", term, dice.randint(-1, 2))
    kind = dice.choice(("next", "prev", "", "", "later", "if"))
    if kind in ("next", "prev"):
        return (kind, "court", term)
    if kind == "later":
        return (dice.choice(("later", "earlier")), term, near_term(dice))
    if kind == "if":
        return (kind, near_condition(dice, 1), term, near_term(dice))
    return term


def near_condition(dice, depth=2):
    kind = dice.choice(("le", "le", "is", "flag", "not", "and", "or")) if depth > 1 else "le"
    if kind == "le":
        return (kind, dice.choice((near_term(dice), ("at", dice.randint(-1, 4)))), near_term(dice))
    if kind == "is":
        return (kind, "court", dice.choice((X, Y)))
    if kind == "flag":
        return (kind, "f")
    if kind == "not":
        return (kind, near_condition(dice, depth - 1))
    return (kind, near_condition(dice, depth - 1), near_condition(dice, depth - 1))
