"""Worlds that are made of the values of points."""

from diesnon.clauses import clauses_of
from diesnon.errors import NotAllowed
from diesnon.layers import above, known_stretches, rule_table, stretches_of
from diesnon.literals import all_hold
from diesnon.points import points, question_conditions
from diesnon.stretches import closed_days
from diesnon.worlds import pairs_of


def stretch_days(stretch, values):
    """The list of the first and last day of a stretch that a point makes, empty if it has no days."""
    word, q, i = stretch
    first, last = (values[i], values[q] - 1) if word == "next" else (values[q] + 1, values[i])
    return [(first, last)] if first <= last else []


def closed_by(made, table, name, values):
    """The closed days of the stretches of a calendar and of the inherited ones."""
    pairs = []
    for layer in [name, *above(table, name)]:
        pairs.extend(known_stretches(table[layer]))
        for stretch in stretches_of(made, layer):
            pairs.extend(stretch_days(stretch, values))
    return closed_days(pairs)


def world_of_values(rules, made, values):
    """The world of the values of the points of a picture with these calendar rules."""
    moved = [number - values[0] for number in values]
    table = rule_table(rules, made)
    calendars = {name: closed_by(made, table, name, moved) for name in table}
    days = {point[1]: moved[at] for at, point in enumerate(made) if point[0] == "day"}
    flags = {point[1]: moved[at] >= 1 for at, point in enumerate(made) if point[0] == "flag"}
    return pairs_of(calendars), pairs_of(days), pairs_of(flags)


def realize(question, values):
    """The world of values that satisfy the clauses of the question."""
    made = points(question)
    if len(values) != len(made):
        raise NotAllowed("there is not one value for each point")
    if not all_hold(clauses_of(question[0], question_conditions(question), made), values):
        raise NotAllowed("a clause does not hold")
    return world_of_values(question[0], made, values)
