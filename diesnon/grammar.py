"""Reads terms and conditions.

What is still to be read stands as goals on a stack, the next one on top, and not in calls
within calls, as brackets may stand deep within one another. The size and the depth of a
node are kept beside it: `t = u` has both terms twice, so nodes may be far too large to be
gone through.
"""

from diesnon.errors import BadForm, TooLarge
from diesnon.rows import Row
from diesnon.terms import is_count, is_too_large
from diesnon.tokens import digits_value, tokens_of

MAX_AROUND = 100


class Reading(Row):
    """The tokens of a text, the goals that are left, and the nodes that are made."""

    def __init__(self, tokens, line, cases):
        super().__init__(tokens, line)
        self.cases = cases
        self.around = 0
        self.goals = []
        self.made = []

    def take_digits(self):
        """Takes digits and returns their number."""
        told = digits_value(self.take())
        if told is None:
            raise BadForm(self.line)
        return told

    def take_number(self):
        """Takes digits, perhaps behind a minus sign, and returns their number."""
        if self.took("-"):
            return -self.take_digits()
        return self.take_digits()

    def take_count(self):
        """Takes the number of an `open` and returns it."""
        count = self.take_number()
        if not is_count(count):
            raise BadForm(self.line)
        return count

    def enter(self):
        """Notes that a bracket or a `not` stands around what follows."""
        self.around += 1
        if self.around > MAX_AROUND:
            raise BadForm(self.line)

    def leave(self):
        """Notes that the innermost bracket or `not` is over."""
        self.around -= 1

    def aim(self, goals):
        """Puts the goals of a list on top, the first one topmost."""
        self.goals.extend(list(reversed(goals)))

    def make(self, front, count, back):
        """Makes a node of the last nodes, as many as count tells, between other elements."""
        begin = len(self.made) - count
        parts = self.made[begin:]
        self.made[begin:] = [joined(front, parts, back)]


def joined(front, parts, back):
    """The node with the nodes of parts between front and back, with its size and depth."""
    node = front + tuple([part[0] for part in parts]) + back
    size = 1 + sum([part[1] for part in parts])
    return node, size, 1 + max([part[2] for part in parts], default=0)


def meet_token(reading, token):
    """Meets the goal of a certain token."""
    reading.take_part(token)


def meet_leave(reading, _):
    """Meets the goal behind a bracket, or behind the operand of a `not`."""
    reading.leave()


def meet_make(reading, told):
    """Meets the goal of a node whose parts are made."""
    front, count, back = told
    reading.make(front, count, back)


def aim_inside(reading, goals, token):
    """Aims at goals that stand in brackets, of which the first one is taken; token ends them."""
    reading.enter()
    reading.aim([*goals, ("token", token), ("leave", None)])


def aim_call(reading, front, kinds, back):
    """Aims at the node of a call, with nodes of these kinds between front and back."""
    reading.take_part("(")
    reading.aim([("make", (front, len(kinds), back))])
    goals = [(kinds[0], None)]
    for kind in kinds[1:]:
        goals.extend([("token", ","), (kind, None)])
    aim_inside(reading, goals, ")")


def meet_term(reading, _):
    """Meets the goal of a term."""
    reading.aim([("atom", None), ("additions", None)])


def meet_additions(reading, _):
    """Meets the goal of the additions behind a term, perhaps of none."""
    while reading.look() in ("+", "-"):
        sign = reading.take()
        told = reading.take_digits()
        reading.make(("plus",), 1, (told if sign == "+" else -told,))


def meet_atom(reading, _):
    """Meets the goal of an atom."""
    token = reading.look()
    if token not in ("@", "(", "next", "prev", "open", "later", "earlier", "if", "due"):
        reading.make(("day", reading.take_name()), 0, ())
        return
    reading.take()
    if token == "@":
        reading.make(("at", reading.take_number()), 0, ())
    elif token == "(":
        aim_inside(reading, [("term", None)], ")")
    elif token in ("next", "prev"):
        aim_call(reading, (token, reading.take_name()), ["term"], ())
    elif token == "open":
        name = reading.take_name()
        aim_call(reading, ("nth", name), ["term"], (reading.take_count(),))
    elif token in ("later", "earlier"):
        aim_call(reading, (token,), ["term", "term"], ())
    elif token == "if":
        aim_call(reading, (token,), ["condition", "term", "term"], ())
    else:
        make_case(reading, token)


def make_case(reading, word):
    """Makes the node of a case whose word is taken."""
    if not reading.cases:
        raise BadForm(reading.line)
    reading.make((word, reading.take_name()), 0, ())


def meet_condition(reading, _):
    """Meets the goal of a condition."""
    reading.aim([("both", None), ("more", ("or", "both"))])


def meet_both(reading, _):
    """Meets the goal of units that are joined by `and`."""
    reading.aim([("unit", None), ("more", ("and", "unit"))])


def meet_more(reading, told):
    """Meets the goal of further conditions of a row, perhaps of none."""
    word, kind = told
    if reading.took(word):
        reading.aim([(kind, None), ("make", ((word,), 2, ())), ("more", told)])


def meet_unit(reading, _):
    """Meets the goal of a unit."""
    token = reading.look()
    if token not in ("not", "yes", "?", "is", "[", "called", "missed", "filed"):
        reading.aim([("term", None), ("relation", None)])
        return
    reading.take()
    if token == "not":
        reading.enter()
        reading.aim([("unit", None), ("leave", None), ("make", ((token,), 1, ()))])
    elif token == "yes":
        reading.make((token,), 0, ())
    elif token == "?":
        reading.make(("flag", reading.take_name()), 0, ())
    elif token == "is":
        aim_call(reading, (token, reading.take_name()), ["term"], ())
    elif token == "[":
        aim_inside(reading, [("condition", None)], "]")
    else:
        make_case(reading, token)


def meet_relation(reading, _):
    """Meets the goal of a relation and the term behind it."""
    sign = reading.take()
    if sign not in ("<=", "<", "="):
        raise BadForm(reading.line)
    reading.aim([("term", None), ("compare", sign)])


def meet_compare(reading, sign):
    """Meets the goal of a comparison whose two terms are made."""
    u = reading.made.pop()
    t = reading.made.pop()
    if sign == "<":
        t = joined(("plus",), [t], (1,))
    compared = joined(("le",), [t, u], ())
    if sign == "=":
        compared = joined(("and",), [compared, joined(("le",), [u, t], ())], ())
    reading.made.append(compared)


STEPS = {
    "token": meet_token,
    "leave": meet_leave,
    "make": meet_make,
    "term": meet_term,
    "additions": meet_additions,
    "atom": meet_atom,
    "condition": meet_condition,
    "both": meet_both,
    "more": meet_more,
    "unit": meet_unit,
    "relation": meet_relation,
    "compare": meet_compare,
}


def meet_all(reading, kind):
    """Reads a term or condition, as kind tells, which becomes the last node that is made."""
    reading.aim([(kind, None)])
    while reading.goals:
        goal, told = reading.goals.pop()
        meet = STEPS[goal]
        meet(reading, told)


def nodes_read(reading):
    """The nodes that are made of all parts of a text.

    Raises BadForm if parts are left, then TooLarge.
    """
    if not reading.is_over():
        raise BadForm(reading.line)
    if any([is_too_large(size, depth) for _, size, depth in reading.made]):
        raise TooLarge("a node is too large or too deep")
    return [node for node, _, _ in reading.made]


def read_node(text, kind, cases, line):
    """The term or condition, as kind tells, of a text in a line; with cases, also of cases.

    Raises BadForm(line) if the text is none, then TooLarge.
    """
    reading = Reading(tokens_of(text, line), line, cases)
    meet_all(reading, kind)
    return nodes_read(reading)[0]
