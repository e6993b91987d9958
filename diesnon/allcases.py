"""All cases of a book: its plain forms, and claims over all histories."""

from diesnon.decide import decide
from diesnon.plain import Forms
from diesnon.worlds import calendar_of, day_of, flag_of, pairs_of


def world_of(book, history):
    """The world of the history."""
    calendars, filings = history
    days = {event: 0 for event in book[1]}
    days.update({event: day for event, day in filings})
    flags = {event: False for event in book[1]}
    flags.update({event: True for event, _ in filings})
    return pairs_of({name: closed for name, closed in calendars}), pairs_of(days), pairs_of(flags)


def history_of(book, world):
    """The history of the world, which may have further names."""
    calendars = tuple([(name, calendar_of(world, name)) for name in sorted([rule[0] for rule in book[0]])])
    filings = []
    for event in sorted(book[1]):
        day = day_of(world, event)
        if flag_of(world, event):
            filings.append((event, day))
    return calendars, tuple(filings)


def plain_condition(book, condition):
    """The plain form of the case condition."""
    return Forms(book).plain(condition)


def presence(book, term):
    """The presence of the case term."""
    return Forms(book).presence(term)


def plain_term(book, term):
    """The plain form of the case term."""
    return Forms(book).plain(term)


def question_of(book, assumptions, claim):
    """The question of the book with these assumptions and this claim, case conditions."""
    forms = Forms(book)
    return book[0], tuple([forms.plain(condition) for condition in assumptions]), forms.plain(claim)


def filled_history(book, world):
    """The history of a world that may lack days and flags of events, as they do not matter."""
    calendars, days, flags = world
    all_days = {event: 0 for event in book[1]}
    all_days.update({name: day for name, day in days})
    all_flags = {event: False for event in book[1]}
    all_flags.update({name: flag for name, flag in flags})
    return history_of(book, (calendars, pairs_of(all_days), pairs_of(all_flags)))


def always(book, assumptions, claim):
    """A history that answers the assumptions and the claim, or a paper that there is none."""
    word, told = decide(question_of(book, assumptions, claim))
    if word == "world":
        return "history", filled_history(book, told)
    return "paper", told
