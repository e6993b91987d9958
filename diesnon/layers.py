"""Calendars that lie within one another: their stretches, anchors, open points and open pieces."""

from diesnon.stretches import free

OPEN_WORDS = ("next", "prev")


def named_calendars(made):
    """The names of the calendars of which points speak, in their order."""
    return [point[1] for point in made if point[0] in OPEN_WORDS]


def rule_table(rules, made):
    """The rule of each calendar that has one or of which a point speaks, under its name."""
    table = {rule[0]: rule for rule in rules}
    for name in named_calendars(made):
        table.setdefault(name, (name, 0, "", ()))
    return table


def above(table, name):
    """The names of the calendars above a calendar, the nearest one first."""
    found = []
    outer = table[name][2]
    while outer != "":
        found.append(outer)
        outer = table[outer][2]
    return found


def with_below(table, name):
    """The name of a calendar, and the names of those that lie within it."""
    return [other for other in table if other == name or name in above(table, other)]


def known_stretches(rule):
    """The closed stretches of the known days of a rule.

    In the place of its known days a rule may have two tuples here, if the days that are known
    are not all in a row: the greatest runs of days that are open, and closed days.
    """
    return rule[3][-1] if rule[3] else ()


def known_pieces(rule):
    """The greatest runs of known days that are known to be open."""
    if not rule[3]:
        return ()
    if len(rule[3]) == 2:
        return rule[3][0]
    first, last, closed = rule[3]
    pieces = ((first, last),)
    for begin, end in closed:
        pieces = free(pieces, begin, end)
    return pieces


def stretches_of(made, name):
    """The stretches that points make: triples of the word, the point and the anchor."""
    return [(point[0], at, point[2]) for at, point in enumerate(made)
            if point[0] in OPEN_WORDS and point[1] == name]


def anchor_points(made, table, name):
    """The anchors of the stretches of a calendar, as points and not as their indexes."""
    found = {made[anchor]: True for _, _, anchor in stretches_of(made, name)}
    for first, _ in known_stretches(table[name]):
        found[("plus", 0, first)] = True
    return list(found)


def run_anchors(made, table, name):
    """The anchors of all stretches of a calendar, the inherited ones too, each once, as points."""
    found = {}
    for layer in [name, *above(table, name)]:
        for anchor in anchor_points(made, table, layer):
            found[anchor] = True
    return list(found)


def open_points(made, table, name):
    """The points that are open days of the calendar, as they are of it or of one within it."""
    layers = with_below(table, name)
    return [at for at, point in enumerate(made) if point[0] in OPEN_WORDS and point[1] in layers]


def open_pieces(table, name):
    """The pieces that are known to be open in the calendar or in one within it."""
    return [piece for layer in with_below(table, name) for piece in known_pieces(table[layer])]
