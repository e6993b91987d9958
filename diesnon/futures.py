"""The futures of a docket: what is certain in them, their due days, and futures that are played."""

from diesnon.allcases import always, filled_history, question_of, world_of
from diesnon.books import case_holds
from diesnon.decide import check
from diesnon.docket import MAX_DAY
from diesnon.errors import Missing, Never, NotAllowed
from diesnon.extremes import span_worlds
from diesnon.plain import Forms
from diesnon.stretches import cut
from diesnon.worlds import keeps_rules


def open_book(docket):
    """The open book of the docket."""
    _, events, rules = docket.book()
    return docket.rules(), events, rules


def event_conditions(event, filed, now):
    """The conditions of an event; filed has the days of those that are filed, and now is today."""
    day, happens = ("day", event), ("filed", event)
    if event in filed:
        told = ("at", filed[event])
        return [happens, ("le", day, told), ("le", told, day)]
    return [("or", ("not", happens), ("le", ("at", now), day))]


def known_conditions(docket):
    """The conditions of the docket, which tell what filings its futures have."""
    filed = {event: day for event, day in docket.filings()}
    conditions = []
    for event in docket.book()[1]:
        conditions.extend(event_conditions(event, filed, docket.today()))
    return tuple(conditions)


def is_future(docket, history):
    """True if the history is a future of the docket."""
    book = open_book(docket)
    if not keeps_rules(world_of(book, history), docket.rules()):
        return False
    return all([case_holds(book, history, condition) for condition in known_conditions(docket)])


def standing(docket, condition):
    """Whether the condition is certain, impossible or open."""
    book, known = open_book(docket), known_conditions(docket)
    if always(book, known, condition)[0] == "paper":
        return "certain"
    if always(book, known, ("not", condition))[0] == "paper":
        return "impossible"
    return "open"


def future_with(docket, condition):
    """A future in which the condition holds."""
    word, told = always(open_book(docket), known_conditions(docket), ("not", condition))
    if word == "paper":
        raise Never("there is no such future")
    return told


def proof_of(docket, condition):
    """A paper that the condition is certain."""
    word, told = always(open_book(docket), known_conditions(docket), condition)
    if word == "history":
        raise NotAllowed("the condition is not certain")
    return told


def check_proof(docket, condition, paper):
    """True if the paper shows that the condition is certain."""
    return check(question_of(open_book(docket), known_conditions(docket), condition), paper)


def check_rule(docket, name):
    """Raises Missing if the book has no rule with the name."""
    if name not in [rule[0] for rule in docket.book()[2]]:
        raise Missing(name)


def due_span(docket, name):
    """The least and the greatest due day of the rule in the futures, with a future for each."""
    check_rule(docket, name)
    book = open_book(docket)
    forms = Forms(book)
    conditions = [*[forms.plain(condition) for condition in known_conditions(docket)], forms.called_forms[name]]
    try:
        ends = span_worlds(book[0], conditions, forms.due_forms[name], ("at", 0))
    except Never:
        return ("never",)
    days = [None if end is None else end[0] for end in ends]
    futures = [None if end is None else filled_history(book, end[1]) for end in ends]
    return "span", days[0], days[1], futures[0], futures[1]


def status(docket, name):
    """The standings of the conditions that the rule is called, and that it is missed."""
    check_rule(docket, name)
    return standing(docket, ("called", name)), standing(docket, ("missed", name))


def fixed(docket, name):
    """The due day of the rule that it has in all futures, None if there is none."""
    check_rule(docket, name)
    if standing(docket, ("called", name)) != "certain":
        return None
    _, low, high, _, _ = due_span(docket, name)
    return low if low == high else None


def publish_all(docket, history, last):
    """Publishes the calendars of a docket up to a day as they are in the history."""
    closed = {name: days for name, days in history[0]}
    for name, _, _, known in list(docket.rules()):
        begin = known[1] + 1 if known else docket.begin()
        if begin <= last:
            docket.publish(name, last, cut(closed[name], begin, last))


def file_all(docket, history, last):
    """Files the events that are filed in the history up to a day, and goes on to it."""
    filed = [event for event, _ in docket.filings()]
    coming = sorted([(day, event) for event, day in history[1] if event not in filed and day <= last])
    for day, event in coming:
        go_on_to(docket, day)
        docket.file(event, day)
    go_on_to(docket, last)


def go_on_to(docket, day):
    """Advances a docket to a day if today is earlier."""
    if docket.today() < day:
        docket.advance(day)


def played(docket, history, last):
    """A copy of the docket on which the future has been played up to a day."""
    if not is_future(docket, history) or not docket.today() <= last <= MAX_DAY:
        raise NotAllowed("this is not a future, or the day is earlier than today or out of range")
    made = docket.copy()
    publish_all(made, history, last)
    file_all(made, history, last)
    return made
