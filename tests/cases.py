"""Books, histories and case nodes, made by a seeded random source, and a plain walk over [9.4] to [9.6]."""

from tests.pictures import small_rules, some_calendars
from tests.samples import days_of

CALENDARS = ("bank", "court", "mint")
EVENTS = ("served", "reply", "appeal", "bond")
RULES = ("answer", "default", "hearing", "costs")


def case_atom(dice, events, rules):
    kind = dice.choice(("event", "event", "rule", "due", "at"))
    if kind == "at":
        return ("at", dice.randint(-4, 12))
    if kind == "event" or not rules:
        return ("day", dice.choice(events))
    return ("day" if kind == "rule" else "due", dice.choice(rules))


def case_term(dice, depth, calendars, events, rules):
    if depth <= 1:
        return case_atom(dice, events, rules)
    kind = dice.choice(("plus", "plus", "next", "next", "prev", "nth", "later", "earlier", "if"))
    first = case_term(dice, depth - 1, calendars, events, rules)
    if kind == "plus" or not calendars and kind in ("next", "prev", "nth"):
        return ("plus", first, dice.randint(-3, 9))
    if kind in ("next", "prev"):
        return (kind, dice.choice(calendars), first)
    if kind == "nth":
        return (kind, dice.choice(calendars), first, dice.choice((-2, -1, 1, 2)))
    second = case_term(dice, dice.randint(1, depth - 1), calendars, events, rules)
    if kind == "if":
        return (kind, case_condition(dice, depth - 1, calendars, events, rules), first, second)
    return (kind, first, second)


def case_leaf(dice, events, rules):
    kind = dice.choice(("yes", "filed", "filed", "called", "missed", "missed"))
    if kind == "yes":
        return ("yes",)
    if kind == "filed" or not rules:
        return ("filed", dice.choice(events))
    return (kind, dice.choice(rules))


def case_condition(dice, depth, calendars, events, rules):
    if depth <= 1:
        return case_leaf(dice, events, rules)
    kind = dice.choice(("leaf", "le", "le", "le", "is", "not", "and", "or"))
    if kind == "leaf":
        return case_leaf(dice, events, rules)
    if kind == "le" or kind == "is" and not calendars:
        return ("le", case_term(dice, dice.randint(1, depth - 1), calendars, events, rules),
                case_term(dice, depth - 1, calendars, events, rules))
    if kind == "is":
        return (kind, dice.choice(calendars), case_term(dice, depth - 1, calendars, events, rules))
    first = case_condition(dice, depth - 1, calendars, events, rules)
    if kind == "not":
        return (kind, first)
    return (kind, first, case_condition(dice, dice.randint(1, depth - 1), calendars, events, rules))


def names_of(book):
    """The names that nodes of a book may have, as the functions above take them."""
    return [rule[0] for rule in book[0]], book[1], [rule[0] for rule in book[2]]


def some_book(dice, calendars=2, events=3, rules=2, known=0.2, depth=2):
    made = small_rules(dice, CALENDARS[:calendars], known)
    names = [rule[0] for rule in made]
    filed = EVENTS[:events]
    told = []
    for name in RULES[:rules]:
        earlier = [rule[0] for rule in told]
        on = dice.choice([*filed, *earlier, *earlier])
        when = ("yes",) if dice.random() < 0.4 else case_condition(dice, depth, names, filed, earlier)
        due = case_term(dice, depth, names, filed, earlier)
        if dice.random() < 0.7:
            # Most due days follow from what the rule is on.
            due = ("next", dice.choice(names), ("plus", ("day", on), dice.randint(0, 5))) if names else ("day", on)
        told.append((name, on, when, due, dice.choice(("", *filed))))
    return (made, filed, tuple(told))


def some_history(dice, book):
    """A history whose calendars keep the calendar rules but perhaps for the runs."""
    closed = some_calendars(dice, book[0], 40, (0, 0.1, 0.3))
    filed = [event for event in sorted(book[1]) if dice.random() < 0.7]
    return (tuple(sorted(closed.items())), tuple((event, dice.randint(-4, 20)) for event in filed))


class Walk:
    """What happens in a history, told rule by rule."""

    def __init__(self, book, history):
        self.closed = {name: days_of(closed) for name, closed in history[0]}
        self.filed = dict(history[1])
        self.happens = dict(history[1])
        self.due = {}
        self.outcomes = []
        for name, on, when, due, met in book[2]:
            day = None
            if on in self.happens and self.holds(when):
                day = self.value(due)
            called = day is not None
            is_met = called and met != "" and met in self.filed and self.filed[met] <= day
            missed = called and not is_met
            self.outcomes.append((name, called, day, is_met, missed))
            if called:
                self.due[name] = day
            if missed:
                self.happens[name] = day + 1

    def lacks(self, node):
        """True if the node names something without a day, anywhere in it."""
        if node[0] == "day":
            return node[1] not in self.happens
        if node[0] == "due":
            return node[1] not in self.due
        return any(self.lacks(part) for part in node[1:] if isinstance(part, tuple))

    def value(self, term):
        return None if self.lacks(term) else self.day_of(term)

    def is_open(self, calendar, day):
        return day not in self.closed[calendar]

    def day_of(self, term):
        word = term[0]
        if word == "day":
            return self.happens[term[1]]
        if word == "due":
            return self.due[term[1]]
        if word == "at":
            return term[1]
        if word == "plus":
            return self.day_of(term[1]) + term[2]
        if word in ("later", "earlier"):
            pair = (self.day_of(term[1]), self.day_of(term[2]))
            return max(pair) if word == "later" else min(pair)
        if word == "if":
            return self.day_of(term[2] if self.holds(term[1]) else term[3])
        day = self.day_of(term[2])
        if word == "nth":
            left, step = abs(term[3]), (1 if term[3] > 0 else -1)
            while left:
                day += step
                left -= self.is_open(term[1], day)
            return day
        while not self.is_open(term[1], day):
            day += 1 if word == "next" else -1
        return day

    def holds(self, node):
        word = node[0]
        if word == "yes":
            return True
        if word == "filed":
            return node[1] in self.filed
        if word == "called":
            return node[1] in self.due
        if word == "missed":
            return node[1] in self.due and node[1] in self.happens
        if word == "not":
            return not self.holds(node[1])
        if word == "and":
            return self.holds(node[1]) and self.holds(node[2])
        if word == "or":
            return self.holds(node[1]) or self.holds(node[2])
        if self.lacks(node):
            return False
        if word == "le":
            return self.day_of(node[1]) <= self.day_of(node[2])
        return self.is_open(node[1], self.day_of(node[2]))
