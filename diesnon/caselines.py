"""Reads the lines of events and of rules of books, which begin with their word."""

from diesnon.errors import BadForm
from diesnon.grammar import Reading, meet_all, nodes_read
from diesnon.tokens import tokens_of


def read_event(text, line):
    """The event of a line; raises BadForm(line) if the line is none."""
    reading = Reading(tokens_of(text, line), line, True)
    reading.take_part("event")
    event = reading.take_name()
    if not reading.is_over():
        raise BadForm(line)
    return event


def read_case_rule(text, line):
    """The rule of a line; raises BadForm(line) if the line is none, then TooLarge."""
    reading = Reading(tokens_of(text, line), line, True)
    reading.take_part("rule")
    if "?" in reading.parts:
        raise BadForm(line)
    name = reading.take_name()
    reading.take_part("on")
    on = reading.take_name()
    reading.take_part("when")
    meet_all(reading, "condition")
    reading.take_part("due")
    meet_all(reading, "term")
    met = reading.take_name() if reading.took("met") else ""
    when, due = nodes_read(reading)
    return name, on, when, due, met
