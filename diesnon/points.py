"""The points of a picture: what its terms and conditions speak of, each thing once."""

from diesnon.errors import Missing, TooLarge
from diesnon.layers import rule_table, run_anchors
from diesnon.literals import denial, literal_holds
from diesnon.stretches import next_open, prev_open
from diesnon.terms import folded
from diesnon.worlds import calendar_of, day_of, flag_of

MAX_POINTS = 80


class Places:
    """Points in their order, and the index of each; new ones are taken in if it is growing."""

    def __init__(self, made, growing):
        self.made = list(made)
        self.growing = growing
        self.table = {point: at for at, point in enumerate(made)}

    def place(self, point):
        """The index of the point."""
        if point in self.table:
            return self.table[point]
        if not self.growing:
            raise Missing(point[0])
        if len(self.made) == MAX_POINTS:
            raise TooLarge("the picture has too many points")
        self.table[point] = len(self.made)
        self.made.append(point)
        return self.table[point]


def nth_place(places, calendar, at, n):
    """The index of the point of an `nth` of the term with the point `at`."""
    word, step = ("next", 1) if n > 0 else ("prev", -1)
    for _ in range(abs(n)):
        at = places.place((word, calendar, places.place(("plus", at, step))))
    return at


def term_told(places, term, told):
    """The index of the point of a term; told are those of its parts, or their literals."""
    word = term[0]
    if word == "day":
        return places.place(("day", term[1]))
    if word == "at":
        return places.place(("plus", 0, term[1]))
    if word == "plus":
        return places.place(("plus", told[0], term[2]))
    if word == "nth":
        return nth_place(places, term[1], told[0], term[3])
    if word in ("next", "prev"):
        return places.place((word, term[1], told[0]))
    return places.place((word, *told))


def condition_told(places, condition, told):
    """The literal of a condition; told are the literals of its parts, or the points of its terms."""
    word = condition[0]
    if word == "le":
        return told[0], told[1], 0
    if word == "is":
        return places.place(("next", condition[1], told[0])), told[0], 0
    if word == "flag":
        return 0, places.place(("flag", condition[1])), -1
    if word == "yes":
        return 0, 0, 0
    if word == "not":
        return denial(told[0])
    return 0, places.place((word, told[0], told[1])), -1


def node_told(places, node):
    """The index of the point of a term, or the literal of a condition."""
    def told_of(part, told):
        if part[0] in ("le", "is", "flag", "yes", "not", "and", "or"):
            return condition_told(places, part, told)
        return term_told(places, part, told)

    return folded(node, told_of)


def place_runs(places, rules):
    """Takes in the points around each anchor of a calendar with a bound on its runs."""
    # The new points bring no new anchors, so it is enough to look at those from before.
    made = list(places.made)
    table = rule_table(rules, made)
    for name, run, _, _ in rules:
        if run > 0:
            for anchor in run_anchors(made, table, name):
                at = places.place(anchor)
                places.place(("next", name, at))
                places.place(("prev", name, at))


def all_points(rules, conditions, terms):
    """The points of the picture of calendar rules, a row of conditions and a row of terms."""
    places = Places([("origin",)], True)
    for node in [*conditions, *terms]:
        node_told(places, node)
    place_runs(places, rules)
    return tuple(places.made)


def question_conditions(question):
    """The conditions of the picture of a question."""
    _, assumptions, claim = question
    return [*assumptions, ("not", claim)]


def points(question):
    """The points of the picture of a question."""
    return all_points(question[0], question_conditions(question), [])


def point_of(made, term):
    """The index of the point of the term among the points that are made."""
    return node_told(Places(made, False), term)


def literal_for(made, condition):
    """The literal of the condition for the points that are made."""
    return node_told(Places(made, False), condition)


def point_value(world, point, values):
    """The value of a point in the world; values are those of the points before it."""
    word = point[0]
    if word == "day":
        return day_of(world, point[1])
    if word == "flag":
        return 1 if flag_of(world, point[1]) else 0
    if word == "plus":
        return values[point[1]] + point[2]
    if word == "next":
        return next_open(calendar_of(world, point[1]), values[point[2]])
    if word == "prev":
        return prev_open(calendar_of(world, point[1]), values[point[2]])
    if word == "later":
        return max(values[point[1]], values[point[2]])
    if word == "earlier":
        return min(values[point[1]], values[point[2]])
    if word == "if":
        return values[point[2]] if literal_holds(point[1], values) else values[point[3]]
    if word == "and":
        return 1 if literal_holds(point[1], values) and literal_holds(point[2], values) else 0
    if word == "or":
        return 1 if literal_holds(point[1], values) or literal_holds(point[2], values) else 0
    return 0


def values_of(made, world):
    """The values of the points in the world."""
    values = []
    for point in made:
        values.append(point_value(world, point, values))
    return tuple(values)
