"""Terms, conditions, questions and worlds that are made by a seeded random source."""

NAMES = ("a", "b2", "court", "day", "le", "x" * 20)
CALENDARS = ("bank", "c", "court")
FLAGS = ("a", "late")


def some_number(dice):
    return dice.choice((0, 1, -1, 3, 14, -20, 999999, 1000000, -1000000, dice.randint(-50, 50)))


def some_count(dice):
    return dice.choice((-6, -3, -2, -1, 1, 2, 4, 6))


def some_term(dice, depth, cases=False):
    if depth <= 1:
        kind = dice.choice(("day", "at", "due") if cases else ("day", "at"))
        if kind == "at":
            return ("at", some_number(dice))
        return (kind, dice.choice(NAMES))
    kind = dice.choice(("day", "at", "plus", "next", "prev", "nth", "later", "earlier", "if"))
    first = some_term(dice, dice.randint(1, depth - 1), cases)
    if kind in ("day", "at"):
        return some_term(dice, 1, cases)
    if kind == "plus":
        return ("plus", first, some_number(dice))
    if kind in ("next", "prev"):
        return (kind, dice.choice(CALENDARS), first)
    if kind == "nth":
        return (kind, dice.choice(CALENDARS), first, some_count(dice))
    second = some_term(dice, depth - 1, cases)
    if kind == "if":
        return (kind, some_condition(dice, dice.randint(1, depth - 1), cases), first, second)
    return (kind, first, second)


def some_condition(dice, depth, cases=False):
    if depth <= 1:
        kind = dice.choice(("flag", "yes", "called", "missed", "filed") if cases else ("flag", "yes"))
        if kind == "yes":
            return ("yes",)
        return (kind, dice.choice(FLAGS))
    kind = dice.choice(("le", "le", "is", "leaf", "not", "and", "or", "and", "or"))
    if kind == "leaf":
        return some_condition(dice, 1, cases)
    if kind == "le":
        return (kind, some_term(dice, dice.randint(1, depth - 1), cases), some_term(dice, depth - 1, cases))
    if kind == "is":
        return (kind, dice.choice(CALENDARS), some_term(dice, depth - 1, cases))
    first = some_condition(dice, depth - 1, cases)
    if kind == "not":
        return (kind, first)
    return (kind, first, some_condition(dice, dice.randint(1, depth - 1), cases))


def some_closed(dice, low, high, chance=0.4):
    """Closed days among the days from low to high."""
    return closed_of([day for day in range(low, high + 1) if dice.random() < chance])


def closed_of(days):
    """The closed days of a set of days, found day by day."""
    closed = []
    for day in sorted(set(days)):
        if closed and closed[-1][1] == day - 1:
            closed[-1] = (closed[-1][0], day)
        else:
            closed.append((day, day))
    return tuple(closed)


def days_of(closed):
    """The set of the days of closed days."""
    return {day for first, last in closed for day in range(first, last + 1)}


def some_rules(dice):
    rules = []
    for name in dice.sample(CALENDARS, dice.randint(0, 3)):
        earlier = [rule[0] for rule in rules]
        within = dice.choice(["", *earlier])
        known = ()
        if dice.random() < 0.5:
            first, last = sorted((dice.randint(-9, 20), dice.randint(-9, 20)))
            known = (first, last, some_closed(dice, first, last))
        rules.append((name, dice.choice((0, 1, 2, 5, 1000000)), within, known))
    return tuple(rules)


def some_question(dice, depth=4):
    assumptions = [some_condition(dice, depth) for _ in range(dice.randint(0, 4))]
    return (some_rules(dice), tuple(assumptions), some_condition(dice, depth))


def some_world(dice):
    """A world with all names of the samples."""
    calendars = tuple((name, some_closed(dice, -12, 25)) for name in sorted(CALENDARS))
    days = tuple((name, dice.randint(-10, 20)) for name in sorted(NAMES))
    flags = tuple((name, dice.random() < 0.5) for name in sorted(FLAGS))
    return (calendars, days, flags)


def chain(depth):
    """A term of this size and depth."""
    term = ("day", "x")
    for _ in range(depth - 1):
        term = ("plus", term, 1)
    return term


def row(count):
    """A condition of the size 2 * count - 1 and of little depth: a tree of count times `yes`."""
    if count == 1:
        return ("yes",)
    return ("and", row(count // 2), row(count - count // 2))


def spoilt_nodes(node, junk):
    """All nodes in which one element, at any depth, is left out, doubled, or one of the junk."""
    for at, element in enumerate(node):
        yield node[:at] + node[at + 1:]
        yield node[:at] + (element,) + node[at:]
        for other in junk:
            if other != element or isinstance(other, bool) != isinstance(element, bool):
                yield node[:at] + (other,) + node[at + 1:]
        if isinstance(element, tuple):
            for other in spoilt_nodes(element, junk):
                yield node[:at] + (other,) + node[at + 1:]
