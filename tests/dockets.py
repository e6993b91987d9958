"""Dockets and futures, made by a seeded random source."""

from diesnon.docket import Docket
from diesnon.errors import DiesError, Never
from tests.samples import some_closed


def some_deed(dice, docket):
    """A deed that is often one that can be done."""
    events = docket.book()[1]
    event = dice.choice(events)
    kind = dice.choice(("file", "file", "file", "correct", "withdraw", "publish", "publish", "advance"))
    today = docket.today()
    if kind in ("file", "correct"):
        return (kind, event, today - dice.choice((0, 0, 0, 1, 3)))
    if kind == "withdraw":
        return (kind, event)
    if kind == "publish" and docket.rules():
        name, run, within, known = dice.choice(docket.rules())
        begin = known[1] + 1 if known else docket.begin()
        last = begin + dice.randint(0, 7)
        return (kind, name, last, some_closed(dice, begin, last, 0.25))
    return ("advance", today + dice.randint(0, 5))


def do(docket, deed):
    getattr(docket, deed[0])(*deed[1:])


def some_docket(dice, book, count=8):
    """A docket of the book with about so many deeds; None if no calendars keep the rules."""
    try:
        docket = Docket(book, dice.randint(-3, 3))
    except Never:
        return None
    for _ in range(count):
        try:
            do(docket, some_deed(dice, docket))
        except DiesError:
            pass
    return docket
