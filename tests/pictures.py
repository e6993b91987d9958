"""Small questions and worlds that keep their rules, made by a seeded random source."""

from diesnon.clauses import all_clauses
from diesnon.stretches import both, free, shut
from diesnon.terms import names_of
from diesnon.worlds import make_world
from tests.samples import some_closed

CALENDARS = ("bank", "court", "mint")
DAYS = ("x", "y", "z")
FLAGS = ("f", "g")


def small_term(dice, depth, calendars=CALENDARS, days=DAYS):
    if depth <= 1:
        return ("day", dice.choice(days)) if dice.random() < 0.8 else ("at", dice.randint(-9, 20))
    kind = dice.choice(("plus", "plus", "next", "next", "prev", "nth", "later", "earlier", "if"))
    first = small_term(dice, dice.randint(1, depth - 1), calendars, days)
    if kind == "plus":
        return (kind, first, dice.randint(-9, 14))
    if kind in ("next", "prev"):
        return (kind, dice.choice(calendars), first)
    if kind == "nth":
        return (kind, dice.choice(calendars), first, dice.choice((-3, -2, -1, 1, 2, 3)))
    second = small_term(dice, depth - 1, calendars, days)
    if kind == "if":
        return (kind, small_condition(dice, depth - 1, calendars, days), first, second)
    return (kind, first, second)


def small_condition(dice, depth, calendars=CALENDARS, days=DAYS):
    if depth <= 1:
        kind = dice.choice(("yes", "flag", "le", "le"))
        if kind == "le":
            return (kind, small_term(dice, 1, calendars, days), small_term(dice, 1, calendars, days))
        return ("yes",) if kind == "yes" else (kind, dice.choice(FLAGS))
    kind = dice.choice(("le", "le", "le", "is", "not", "and", "or"))
    if kind == "le":
        return (kind, small_term(dice, dice.randint(1, depth - 1), calendars, days),
                small_term(dice, depth - 1, calendars, days))
    if kind == "is":
        return (kind, dice.choice(calendars), small_term(dice, depth - 1, calendars, days))
    first = small_condition(dice, depth - 1, calendars, days)
    if kind == "not":
        return (kind, first)
    return (kind, first, small_condition(dice, dice.randint(1, depth - 1), calendars, days))


def small_rules(dice, calendars=CALENDARS, known=0.3):
    rules = []
    for name in calendars:
        within = dice.choice(["", *[rule[0] for rule in rules]])
        days = ()
        if dice.random() < known:
            first = dice.randint(-5, 5)
            last = first + dice.randint(0, 9)
            days = (first, last, some_closed(dice, first, last, 0.3))
        rules.append((name, dice.choice((0, 1, 2, 3, 5)), within, days))
    return tuple(rules)


def small_question(dice, depth=3, most=3):
    calendars = CALENDARS[:dice.randint(1, 3)]
    assumptions = [small_condition(dice, 2, calendars) for _ in range(dice.randint(0, most))]
    return (small_rules(dice, calendars), tuple(assumptions), small_condition(dice, depth, calendars))


def names_in(rules, nodes):
    """The sets of the names of days, calendars and flags of rules and nodes."""
    told = [names_of(node) for node in nodes]
    days = {name for names, _, _ in told for name in names}
    calendars = {name for _, names, _ in told for name in names} | {rule[0] for rule in rules}
    return days, calendars, {name for _, _, names in told for name in names}


def some_calendars(dice, rules, last, chances):
    """Calendars with closed days up to the last day. They keep within and known, perhaps not the runs."""
    closed = {}
    for name, _, within, known in rules:
        closed[name] = some_closed(dice, -14, last, dice.choice(chances))
        if within:
            closed[name] = both(closed[name], closed[within])
        if known:
            closed[name] = free(closed[name], known[0], known[1])
            for first, end in known[2]:
                closed[name] = shut(closed[name], first, end)
    return closed


def some_world_for(dice, rules, nodes):
    """A world with just the names of the rules and nodes. It keeps within and known, perhaps not the runs."""
    days, calendars, flags = names_in(rules, nodes)
    closed = some_calendars(dice, rules, 30, (0, 0.1, 0.3, 0.6))
    for name in sorted(calendars):
        closed.setdefault(name, some_closed(dice, -14, 30, 0.3))
    return make_world(closed, {name: dice.randint(-9, 22) for name in sorted(days)},
                      {name: dice.random() < 0.5 for name in sorted(flags)})


def nodes_of(question):
    return [*question[1], question[2]]


def chain_of_days(count):
    """A term whose picture has this many points: the origin, a day, and sums of it."""
    term = ("day", "x")
    for _ in range(count - 2):
        term = ("plus", term, 1)
    return term


def many_clauses(count):
    """Rules whose picture with the terms of `many_terms` has many clauses, more with each count."""
    return (("c", 0, "", (0, 4 * count, tuple((4 * k, 4 * k) for k in range(count)))),)


def many_terms():
    term = ("day", "x")
    for _ in range(26):
        term = ("next", "c", ("plus", term, 1))
    return term, ("day", "x")


def conditions_for(rules, t, u, count):
    """Conditions with which the picture has so many clauses: each brings just its own one."""
    points = [t]
    while points[-1] != ("day", "x"):
        points.append(points[-1][2] if points[-1][0] == "next" else points[-1][1])
    pairs = [("le", early, late) for k, late in enumerate(points) for early in points[k + 1:]]
    conditions = []
    while len(all_clauses(rules, conditions, [t, u])) < count:
        conditions.append(pairs[len(conditions)])
    return tuple(conditions)
