"""Texts of books, written and read."""

from diesnon.books import check_book
from diesnon.caselines import read_case_rule, read_event
from diesnon.errors import BadForm
from diesnon.reader import lines_of
from diesnon.rulelines import read_rule
from diesnon.writer import condition_text, rule_text, term_text


def case_rule_text(rule):
    """The line of a rule of a book."""
    name, on, when, due, met = rule
    text = f"rule {name} on {on} when {condition_text(when)} due {term_text(due)}"
    return text if met == "" else f"{text} met {met}"


def book_text(book):
    """The text of the book."""
    calendars, events, rules = book
    lines = [rule_text(rule) for rule in calendars]
    lines.extend([f"event {event}" for event in events])
    lines.extend([case_rule_text(rule) for rule in rules])
    return "".join([f"{line}\n" for line in lines])


def read_book(text):
    """The book of a text."""
    calendars = []
    events = []
    rules = []
    for line, told in enumerate(lines_of(text), start=1):
        word, _, _ = told.partition(" ")
        if word == "rule":
            rules.append(read_case_rule(told, line))
        elif rules:
            raise BadForm(line)
        elif word == "event":
            events.append(read_event(told, line))
        elif events:
            raise BadForm(line)
        else:
            calendars.append(read_rule(told, calendars, line))
    book = tuple(calendars), tuple(events), tuple(rules)
    check_book(book)
    return book
