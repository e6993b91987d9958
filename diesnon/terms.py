"""Names, terms, conditions, calendar rules and questions: their forms and sizes."""

from diesnon.errors import NotAllowed, TooLarge
from diesnon.kinds import is_integer
from diesnon.stretches import is_closed_days

MAX_NODES = 400
MAX_DEPTH = 40
MAX_NUMBER = 1000000
MAX_COUNT = 6
MAX_RULES = 6
MAX_ASSUMPTIONS = 30
WORDS = (
    "next", "prev", "open", "later", "earlier", "if", "is", "not", "and", "or", "yes",
    "calendar", "run", "within", "known", "to", "closed", "assume", "claim", "event", "rule",
    "on", "when", "due", "met", "called", "missed", "filed",
)

MAX_SIGNS = 20
LETTERS = "abcdefghijklmnopqrstuvwxyz"
DIGITS = "0123456789"

# What a node with this word is, and then of which kinds its further elements are.
FORMS = {
    "day": ("term", "day"),
    "at": ("term", "number"),
    "plus": ("term", "term", "number"),
    "next": ("term", "calendar", "term"),
    "prev": ("term", "calendar", "term"),
    "nth": ("term", "calendar", "term", "count"),
    "later": ("term", "term", "term"),
    "earlier": ("term", "term", "term"),
    "if": ("term", "condition", "term", "term"),
    "due": ("term", "rule"),
    "le": ("condition", "term", "term"),
    "is": ("condition", "calendar", "term"),
    "flag": ("condition", "flag"),
    "yes": ("condition",),
    "not": ("condition", "condition"),
    "and": ("condition", "condition", "condition"),
    "or": ("condition", "condition", "condition"),
    "called": ("condition", "rule"),
    "missed": ("condition", "rule"),
    "filed": ("condition", "event"),
}
NODE_KINDS = ("term", "condition")
CASE_WORDS = ("due", "called", "missed", "filed")


def is_name(text):
    """True if the text is a name."""
    if not 1 <= len(text) <= MAX_SIGNS or text in WORDS:
        return False
    return text[0] in LETTERS and all([sign in LETTERS or sign in DIGITS for sign in text])


def is_number(value):
    """True if the value is an integer that may be written."""
    return is_integer(value) and -MAX_NUMBER <= value <= MAX_NUMBER


def is_count(value):
    """True if the value may be the number of an `nth`."""
    return is_integer(value) and 1 <= abs(value) <= MAX_COUNT


def is_leaf(kind, value):
    """True if the value is what an element of this kind has to be."""
    if kind == "number":
        return is_number(value)
    if kind == "count":
        return is_count(value)
    return isinstance(value, str) and is_name(value)


def has_form(node, kind, cases):
    """True if the node begins and is as long as a node of this kind; its elements may be wrong."""
    if not isinstance(node, tuple) or len(node) == 0 or not isinstance(node[0], str):
        return False
    form = FORMS.get(node[0], ())
    if len(form) != len(node) or form[0] != kind:
        return False
    return cases or node[0] not in CASE_WORDS


def is_node(node, kind, cases):
    """True if the node is a term or condition, as kind tells; with cases, of cases, too."""
    rows = [(kind, node)]
    while rows:
        wanted, part = rows.pop()
        if wanted in NODE_KINDS:
            if not has_form(part, wanted, cases):
                return False
            rows.extend(list(zip(FORMS[part[0]][1:], part[1:])))
        elif not is_leaf(wanted, part):
            return False
    return True


def parts_of(node):
    """The list of the terms and conditions directly in a node."""
    return [part for kind, part in zip(FORMS[node[0]][1:], node[1:]) if kind in NODE_KINDS]


def folded(node, act):
    """What act(node, told) returns, where told lists what it returned for the parts.

    The parts are gone through without calls within calls, as nodes may be deep.
    """
    rows = [node]
    outer_first = []
    while rows:
        part = rows.pop()
        parts = parts_of(part)
        outer_first.append((part, len(parts)))
        rows.extend(parts)
    told = []
    for part, count in reversed(outer_first):
        begin = len(told) - count
        told[begin:] = [act(part, told[begin:])]
    return told[0]


def size_of(node):
    """How many terms and conditions the node consists of."""
    return folded(node, lambda part, sizes: 1 + sum(sizes))


def depth_of(node):
    """How deep terms and conditions stand within one another."""
    return folded(node, lambda part, depths: 1 + max(depths, default=0))


def names_of(node):
    """The lists of the names of the days, the calendars and the flags in a node."""
    found = {"day": [], "calendar": [], "flag": []}
    rows = [node]
    while rows:
        part = rows.pop()
        for kind, told in zip(FORMS[part[0]][1:], part[1:]):
            if kind in found:
                found[kind].append(told)
        rows.extend(parts_of(part))
    return sorted(set(found["day"])), sorted(set(found["calendar"])), sorted(set(found["flag"]))


def is_too_large(size, depth):
    """True if a node of this size and depth is beyond the limits."""
    return size > MAX_NODES or depth > MAX_DEPTH


def check_size(node):
    """Raises TooLarge if the node is too large or too deep."""
    if is_too_large(size_of(node), depth_of(node)):
        raise TooLarge("the node is too large or too deep")


def rebuilt(node, parts):
    """The node with other parts in the place of its parts."""
    made = [node[0]]
    at = 0
    for kind, told in zip(FORMS[node[0]][1:], node[1:]):
        if kind in NODE_KINDS:
            made.append(parts[at])
            at += 1
        else:
            made.append(told)
    return tuple(made)


def with_days(node, table):
    """The node with the terms of the table in the place of its days."""
    def changed(part, parts):
        if part[0] == "day" and part[1] in table:
            return table[part[1]]
        return rebuilt(part, parts)

    made = folded(node, changed)
    check_size(made)
    return made


def check_node(node, kind):
    """Raises NotAllowed if the node is not of the kind, then TooLarge."""
    if not is_node(node, kind, False):
        raise NotAllowed(f"this is not a {kind}")
    check_size(node)


def check_term(term):
    """Raises NotAllowed if the argument is not a term, then TooLarge."""
    check_node(term, "term")


def check_condition(condition):
    """Raises NotAllowed if the argument is not a condition, then TooLarge."""
    check_node(condition, "condition")


def is_known(known):
    """True if the tuple tells the known days of a calendar rule."""
    if len(known) == 0:
        return True
    if len(known) != 3:
        return False
    first, last, closed = known
    if not (is_number(first) and is_number(last) and first <= last and is_closed_days(closed)):
        return False
    return all([first <= begin and end <= last for begin, end in closed])


def is_rule(rule, earlier):
    """True if the tuple is a calendar rule behind rules with the names of the list `earlier`."""
    name, run, within, known = rule
    if not is_name(name) or name in earlier:
        return False
    if not (is_number(run) and run >= 0):
        return False
    return (within == "" or within in earlier) and is_known(known)


def are_rules(rules):
    """True if the tuple is the calendar rules of a question."""
    names = []
    for rule in rules:
        if not is_rule(rule, names):
            return False
        names.append(rule[0])
    return len(names) <= MAX_RULES


def check_question(question):
    """Raises NotAllowed if the argument is not a question, then TooLarge."""
    rules, assumptions, claim = question
    conditions = [*assumptions, claim]
    if not are_rules(rules) or len(assumptions) > MAX_ASSUMPTIONS:
        raise NotAllowed("these are not the rules and assumptions of a question")
    if not all([is_node(condition, "condition", False) for condition in conditions]):
        raise NotAllowed("this is not a condition")
    for condition in conditions:
        check_size(condition)
