"""Facts of a world: those at which one looks to find a value, and worlds that agree with some."""

from diesnon.decide import picture
from diesnon.errors import TooLarge
from diesnon.layers import known_pieces, known_stretches
from diesnon.meaning import part_told
from diesnon.papers import MAX_CLAUSES
from diesnon.points import point_of
from diesnon.realize import world_of_values
from diesnon.search import solved
from diesnon.stretches import closed_days, is_open
from diesnon.terms import folded, is_number
from diesnon.worlds import calendar_of, pairs_of


class Look:
    """What a node means in a world, and the rows of facts at which one looks to find it.

    A row is ("day", name, n), ("flag", name, b), or ("days", calendar, first, last) for the
    facts of all days from first to last, which may be too many to go through.
    """

    def __init__(self, told, seen):
        self.told = told
        self.seen = seen


def days_row(part, begin, end):
    """The row of the days at which a node looks that goes from a begin to an end."""
    if part[0] == "nth":
        begin += 1 if part[3] > 0 else -1
    return "days", part[1], min(begin, end), max(begin, end)


def rows_of(part, told, looks):
    """The rows of facts at which one looks for a node that means this and whose parts have these looks."""
    word = part[0]
    if word in ("day", "flag"):
        return [(word, part[1], told)]
    if word == "if":
        return looks[0].seen + (looks[1].seen if looks[0].told else looks[2].seen)
    if word in ("and", "or") and looks[0].told == (word == "or"):
        return looks[0].seen
    seen = [row for look in looks for row in look.seen]
    if word in ("next", "prev", "nth"):
        seen.append(days_row(part, looks[0].told, told))
    elif word == "is":
        seen.append(days_row(part, looks[0].told, looks[0].told))
    return seen


def look_at(world, node):
    """The look of a node in a world that has all its names."""
    def look_of(part, looks):
        told = part_told(world, part, [look.told for look in looks])
        return Look(told, rows_of(part, told, looks))

    return folded(node, look_of)


def check_numbers(numbers):
    """Raises TooLarge if one of the numbers cannot be written."""
    if not all([is_number(number) for number in numbers]):
        raise TooLarge("a number is too large to be written")


def check_facts(facts):
    """Raises TooLarge if the number of a fact cannot be written."""
    check_numbers([told for word, _, told in facts if word != "flag"])


def facts_of(world, seen, most):
    """The ascending tuple of the facts of rows; raises TooLarge if there are more than most."""
    facts = {}
    for row in seen:
        if row[0] != "days":
            facts[row] = True
            continue
        _, name, first, last = row
        if last - first >= most:
            raise TooLarge("one looks at too many facts")
        closed = calendar_of(world, name)
        for day in range(first, last + 1):
            facts[("open" if is_open(closed, day) else "closed", name, day)] = True
    if len(facts) > most:
        raise TooLarge("one looks at too many facts")
    check_facts(facts)
    return tuple(sorted(facts))


def days_told(facts, word, name):
    """The list of the days that facts with this word tell of a calendar, as stretches."""
    return [(day, day) for other, calendar, day in facts if other == word and calendar == name]


def rules_with(rules, facts, named):
    """The rules with facts among their known days, and with the calendars that other facts name."""
    table = {rule[0]: rule for rule in rules}
    for word, name, _ in named:
        if word in ("open", "closed"):
            table.setdefault(name, (name, 0, "", ()))
    made = []
    for rule in table.values():
        name, run, within, _ = rule
        pieces = closed_days([*known_pieces(rule), *days_told(facts, "open", name)])
        shut_days = closed_days([*known_stretches(rule), *days_told(facts, "closed", name)])
        made.append((name, run, within, (pieces, shut_days)))
    return tuple(made)


def fact_clauses(made, facts):
    """The clauses that the days and flags among the points are what the facts tell."""
    places = {point: at for at, point in enumerate(made)}
    rows = []
    for word, name, told in facts:
        at = places.get((word, name))
        if at is None:
            continue
        if word == "day":
            rows.extend([((at, 0, told),), ((0, at, -told),)])
        else:
            rows.append(((0, at, -1),) if told else ((at, 0, 0),))
    return rows


def fact_conditions(fact):
    """The list of conditions that all hold in a world exactly if it agrees with the fact."""
    word, name, told = fact
    if word == "day":
        return [("le", ("day", name), ("at", told)), ("le", ("at", told), ("day", name))]
    if word == "flag":
        return [("flag", name) if told else ("not", ("flag", name))]
    condition = ("is", name, ("at", told))
    return [condition if word == "open" else ("not", condition)]


def check_picture(rules, term, worth, facts):
    """Raises TooLarge if the question is too large whether the facts explain that the term has this value.

    It is asked in another way, with fewer points, but what is too large does not depend on that.
    """
    conditions = [condition for fact in facts for condition in fact_conditions(fact)]
    picture(rules, conditions, [term, ("at", worth)], MAX_CLAUSES)


def completed(pairs, facts, word):
    """The pairs of a world, and those of facts with the word that name something else."""
    table = {name: told for other, name, told in facts if other == word}
    table.update({name: told for name, told in pairs})
    return pairs_of(table)


def other_world(rules, term, worth, facts, named):
    """A world that keeps the rules and agrees with the facts, in which the term has not this value.

    It also has the names of all facts in `named`. None if there is no such world.
    """
    told_rules = rules_with(rules, facts, named)
    made, rows = picture(told_rules, [], [term], MAX_CLAUSES)
    at = point_of(made, term)
    differs = ((0, at, -worth - 1), (at, 0, worth - 1))
    word, told = solved(len(made), [*rows, *fact_clauses(made, facts), differs])
    if word == "paper":
        return None
    calendars, days, flags = world_of_values(told_rules, made, told)
    return calendars, completed(days, named, "day"), completed(flags, named, "flag")
