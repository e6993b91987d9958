"""The answers to the lines of a script. A command is a tuple of a word and what stands behind it."""

from diesnon.allcases import always
from diesnon.books import MAX_EVENTS, check_book, check_case_condition
from diesnon.caselines import read_case_rule, read_event
from diesnon.compare import latest_behind, never_called
from diesnon.cores import least_sets
from diesnon.decide import verdict
from diesnon.deeds import do_deed
from diesnon.docket import Docket
from diesnon.errors import Missing, NotAllowed
from diesnon.extremes import greatest, span
from diesnon.families import critical_run, orders
from diesnon.futures import due_span, fixed, standing
from diesnon.image import docket_text
from diesnon.reader import read_case_condition, read_condition, read_term
from diesnon.rulelines import read_rule
from diesnon.terms import MAX_ASSUMPTIONS


def listed(texts):
    """The texts with spaces between them, `-` if there are none."""
    return " ".join(texts) if texts else "-"


def days_text(days):
    """The days with spaces between them, `-` in the place of one that there is not."""
    return " ".join(["-" if day is None else str(day) for day in days])


def add_calendar(desk, command):
    """Adds a calendar rule."""
    rule = read_rule(command[1], list(desk.calendars), 1)
    desk.check_free()
    desk.calendars = (*desk.calendars, rule)
    return "ok"


def add_assumption(desk, command):
    """Adds an assumption and tells its index."""
    condition = read_condition(command[1])
    index = len(desk.assumed)
    if index >= MAX_ASSUMPTIONS:
        raise NotAllowed("there are too many assumptions")
    desk.assumed = (*desk.assumed, condition)
    return str(index)


def drop_assumption(desk, command):
    """Takes an assumption away."""
    index = command[1]
    if index >= len(desk.assumed):
        raise Missing("assumption")
    desk.assumed = desk.assumed[:index] + desk.assumed[index + 1:]
    return "ok"


def tell_verdict(desk, command):
    """Tells the verdict on a claim."""
    return verdict(desk.question(read_condition(command[1])))


def tell_most(desk, command):
    """Tells the greatest difference of two terms."""
    t, u = read_term(command[1]), read_term(command[2])
    told = greatest(desk.calendars, desk.assumed, t, u)
    return told[0] if told[0] == "endless" else str(told[1])


def tell_span(desk, command):
    """Tells the span of two terms."""
    t, u = read_term(command[1]), read_term(command[2])
    return days_text(span(desk.calendars, desk.assumed, t, u))


def tell_orders(desk, command):
    """Tells the orders of two terms."""
    t, u = read_term(command[1]), read_term(command[2])
    return listed(orders(desk.calendars, desk.assumed, t, u))


def tell_run(desk, command):
    """Tells the critical run of a calendar rule for a claim."""
    claim = read_condition(command[2])
    told = critical_run(desk.question(claim), command[1])
    return told[0] if told[0] == "always" else str(told[1])


def set_text(chosen):
    """The text of a set of indexes."""
    return ",".join([str(index) for index in chosen]) if chosen else "."


def tell_need(desk, command):
    """Tells the least sets of assumptions that a claim needs."""
    sets = least_sets(desk.question(read_condition(command[1])))
    return listed([set_text(chosen) for chosen in sets])


def add_event(desk, command):
    """Adds an event."""
    event = read_event(command[1], 1)
    desk.check_free()
    taken = [*desk.events, *[rule[0] for rule in desk.case_rules]]
    if event in taken or len(desk.events) >= MAX_EVENTS:
        raise NotAllowed("the event is there already, or there are too many")
    desk.events = (*desk.events, event)
    return "ok"


def add_rule(desk, command):
    """Adds a rule of the book."""
    rule = read_case_rule(command[1], 1)
    desk.check_free()
    rules = (*desk.case_rules, rule)
    check_book((desk.calendars, desk.events, rules))
    desk.case_rules = rules
    return "ok"


def tell_always(desk, command):
    """Tells whether a case condition holds in all histories."""
    condition = read_case_condition(command[1])
    book = desk.checked_book()
    check_case_condition(book, condition)
    return "yes" if always(book, (), condition)[0] == "paper" else "no"


def tell_behind(desk, command):
    """Tells by how many days the due day of a rule is at most behind that of another one."""
    told = latest_behind(desk.checked_book(), (), command[1], command[2])
    return told[0] if told[0] == "endless" else str(told[1])


def tell_unused(desk, _):
    """Tells the rules that are never called."""
    return listed(never_called(desk.checked_book()))


def begin_docket(desk, command):
    """Begins a new docket."""
    desk.docket = Docket(desk.checked_book(), command[1])
    return "ok"


def act(desk, command):
    """Does a deed."""
    do_deed(desk.checked_docket(), command)
    return "ok"


def take_back(desk, _):
    """Takes the last deed back."""
    desk.checked_docket().undo()
    return "ok"


def tell_standing(desk, command):
    """Tells what a case condition is."""
    condition = read_case_condition(command[1])
    docket = desk.checked_docket()
    check_case_condition(docket.book(), condition)
    return standing(docket, condition)


def tell_due(desk, command):
    """Tells the least and the greatest due day of a rule."""
    told = due_span(desk.checked_docket(), command[1])
    return told[0] if told[0] == "never" else days_text(told[1:3])


def tell_fixed(desk, command):
    """Tells the due day of a rule if it is fixed."""
    return days_text([fixed(desk.checked_docket(), command[1])])


def tell_text(desk, _):
    """Tells the text of the docket."""
    return docket_text(desk.checked_docket()).replace("\n", ";")


ACTIONS = {
    "calendar": add_calendar, "assume": add_assumption, "drop": drop_assumption,
    "decide": tell_verdict, "most": tell_most, "span": tell_span, "orders": tell_orders,
    "run": tell_run, "need": tell_need, "event": add_event, "rule": add_rule,
    "always": tell_always, "behind": tell_behind, "unused": tell_unused, "open": begin_docket,
    "file": act, "correct": act, "withdraw": act, "publish": act, "advance": act, "undo": take_back,
    "stand": tell_standing, "due": tell_due, "fixed": tell_fixed, "text": tell_text,
}
