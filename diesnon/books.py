"""Books of rules that call one another, and what happens in a history."""

from diesnon.course import Course
from diesnon.errors import NotAllowed
from diesnon.kinds import is_integer
from diesnon.stretches import is_closed_days
from diesnon.terms import FORMS, are_rules, check_size, is_name, is_node, parts_of

MAX_EVENTS = 6
MAX_RULES = 6
MAX_LEVEL = 4


def named_in(node):
    """The pairs of what is named and of the name, for all names in a node; some may come twice."""
    found = []
    rows = [node]
    while rows:
        part = rows.pop()
        kinds = FORMS[part[0]][1:]
        found.extend([(kind, name) for kind, name in zip(kinds, part[1:])
                      if kind in ("day", "calendar", "flag", "rule", "event")])
        rows.extend(parts_of(part))
    return found


def is_of_book(node, kind, calendars, events, rules):
    """True if the node is a case node of this kind that names only what is in the lists."""
    known = {"day": [*events, *rules], "calendar": calendars, "flag": [], "rule": rules, "event": events}
    return is_node(node, kind, True) and all([name in known[what] for what, name in named_in(node)])


def check_case(book, node, kind):
    """Raises NotAllowed if the node is no case node of the book of this kind, then TooLarge."""
    calendars, events, rules = book
    names = [rule[0] for rule in rules]
    if not is_of_book(node, kind, [rule[0] for rule in calendars], events, names):
        raise NotAllowed(f"this is not a case {kind} of the book")
    check_size(node)


def check_case_term(book, term):
    """Raises NotAllowed if the argument is not a case term of the book, then TooLarge."""
    check_case(book, term, "term")


def check_case_condition(book, condition):
    """Raises NotAllowed if the argument is not a case condition of the book, then TooLarge."""
    check_case(book, condition, "condition")


def are_events(events):
    """True if the texts are the events of a book."""
    if not 1 <= len(events) <= MAX_EVENTS or len(set(events)) < len(events):
        return False
    return all([is_name(event) for event in events])


def is_case_rule(rule, calendars, events, earlier):
    """True if the tuple is a rule of a book behind rules with the names of the list `earlier`."""
    name, on, when, due, met = rule
    if not is_name(name) or name in events or name in earlier:
        return False
    if on not in events and on not in earlier:
        return False
    if not (is_of_book(when, "condition", calendars, events, earlier)
            and is_of_book(due, "term", calendars, events, earlier)):
        return False
    return met == "" or met in events


def level_of(rule, levels):
    """The level of a rule; levels are those of the earlier rules."""
    _, on, when, due, _ = rule
    # A calendar may have the name of a rule.
    named = [name for what, name in [*named_in(when), *named_in(due)] if what != "calendar"]
    return 1 + max([levels[name] for name in [on, *named] if name in levels], default=0)


def are_case_rules(rules, calendars, events):
    """True if the tuple is the rules of a book with these calendars and events."""
    levels = {}
    for rule in rules:
        if not is_case_rule(rule, calendars, events, list(levels)):
            return False
        levels[rule[0]] = level_of(rule, levels)
        if levels[rule[0]] > MAX_LEVEL:
            return False
    return 1 <= len(rules) <= MAX_RULES


def check_book(book):
    """Raises NotAllowed if the argument is not a book, then TooLarge."""
    calendars, events, rules = book
    if not are_rules(calendars) or not are_events(events):
        raise NotAllowed("these are not the calendar rules and events of a book")
    if not are_case_rules(rules, [rule[0] for rule in calendars], events):
        raise NotAllowed("these are not the rules of a book")
    for _, _, when, due, _ in rules:
        check_size(when)
        check_size(due)


def check_history(book, history):
    """Raises NotAllowed if the argument is not a history of the book."""
    calendars, filings = history
    if [name for name, _ in calendars] != sorted([rule[0] for rule in book[0]]):
        raise NotAllowed("these are not the calendars of the book")
    if not all([is_closed_days(closed) for _, closed in calendars]):
        raise NotAllowed("these are not closed days")
    filed = [event for event, _ in filings]
    if filed != sorted(set(filed)) or not all([event in book[1] for event in filed]):
        raise NotAllowed("these are not filings of events of the book")
    if not all([is_integer(day) for _, day in filings]):
        raise NotAllowed("this is not a day")


def outcomes(book, history):
    """The outcomes of the rules, in order: the name, called or not, the due day, met or not, missed or not."""
    course = Course(book, history)
    return tuple([course.outcome(rule) for rule in book[2]])


def case_value(book, history, term):
    """The value of the case term in the history, None if it has none."""
    return Course(book, history).meaning(term)


def case_holds(book, history, condition):
    """True if the case condition holds in the history."""
    return Course(book, history).meaning(condition)
