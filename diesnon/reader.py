"""Reads texts: terms, conditions and questions."""

from diesnon.errors import BadForm
from diesnon.grammar import read_node
from diesnon.rulelines import read_rule
from diesnon.terms import MAX_ASSUMPTIONS


def read_term(text):
    """The term of a text."""
    return read_node(text, "term", False, 1)


def read_condition(text):
    """The condition of a text."""
    return read_node(text, "condition", False, 1)


def read_case_term(text):
    """The case term of a text."""
    return read_node(text, "term", True, 1)


def read_case_condition(text):
    """The case condition of a text."""
    return read_node(text, "condition", True, 1)


def lines_of(text):
    """The list of the lines of a text, the last one with or without a newline."""
    lines = text.split("\n")
    if lines[-1] == "":
        lines.pop()
    return lines


def read_question(text):
    """The question of a text."""
    rules = []
    assumptions = []
    claims = []
    lines = lines_of(text)
    for line, told in enumerate(lines, start=1):
        word, _, rest = told.partition(" ")
        if claims:
            raise BadForm(line)
        if word == "claim":
            claims.append(read_node(rest, "condition", False, line))
        elif word == "assume" and len(assumptions) < MAX_ASSUMPTIONS:
            assumptions.append(read_node(rest, "condition", False, line))
        elif assumptions:
            raise BadForm(line)
        else:
            rules.append(read_rule(told, rules, line))
    if not claims:
        raise BadForm(len(lines) + 1)
    return tuple(rules), tuple(assumptions), claims[0]
