"""The clauses of a picture: what holds of its points in each world."""

from diesnon.layers import known_stretches, open_pieces, open_points, rule_table, run_anchors, stretches_of
from diesnon.literals import denial
from diesnon.points import all_points, literal_for, question_conditions


def chosen_clauses(at, point):
    """The clauses of a point `later` or `earlier`."""
    word, i, j = point
    if word == "later":
        return [((i, at, 0),), ((j, at, 0),), ((at, i, 0), (at, j, 0))]
    return [((at, i, 0),), ((at, j, 0),), ((i, at, 0), (j, at, 0))]


def branch_clauses(at, point):
    """The clauses of a point `if`."""
    _, literal, i, j = point
    other = denial(literal)
    return [(other, (at, i, 0)), (other, (i, at, 0)), (literal, (at, j, 0)), (literal, (j, at, 0))]


def joined_clauses(at, point):
    """The clauses of a point `and` or `or`."""
    word, first, second = point
    literal = (0, at, -1)
    other = denial(literal)
    if word == "and":
        return [(other, first), (other, second), (literal, denial(first), denial(second))]
    return [(other, first, second), (literal, denial(first)), (literal, denial(second))]


def point_clauses(at, point):
    """The clauses that tell what the point with the index `at` is."""
    word = point[0]
    if word == "plus":
        return [((at, point[1], point[2]),), ((point[1], at, -point[2]),)]
    if word == "next":
        return [((point[2], at, 0),)]
    if word == "prev":
        return [((at, point[2], 0),)]
    if word in ("later", "earlier"):
        return chosen_clauses(at, point)
    if word == "if":
        return branch_clauses(at, point)
    if word in ("and", "or"):
        return joined_clauses(at, point)
    return []


def outside_clause(stretch, r):
    """The clause that the point r is not in a stretch that a point makes."""
    word, q, i = stretch
    if word == "next":
        return (r, i, -1), (q, r, 0)
    return (r, q, 0), (i, r, -1)


def apart_clause(stretch, piece):
    """The clause that a stretch that a point makes does not meet an open piece."""
    word, q, i = stretch
    u, v = piece
    if word == "next":
        return (q, 0, u), (0, i, -v - 1), (q, i, 0)
    return (i, 0, u - 1), (0, q, -v), (i, q, 0)


def open_clauses(made, table, name):
    """The clauses that what is open is in no stretch of the calendar."""
    rows = []
    stretches = stretches_of(made, name)
    known = known_stretches(table[name])
    for r in open_points(made, table, name):
        rows.extend([outside_clause(stretch, r) for stretch in stretches if stretch[1] != r])
        rows.extend([((r, 0, a - 1), (0, r, -b - 1)) for a, b in known])
    for u, v in open_pieces(table, name):
        rows.extend([apart_clause(stretch, (u, v)) for stretch in stretches])
        rows.extend([() for a, b in known if a <= v and b >= u])
    return rows


def run_clauses(made, table, name):
    """The clauses that bound the runs of the calendar."""
    run = table[name][1]
    if run == 0:
        return []
    places = {point: at for at, point in enumerate(made)}
    rows = []
    for anchor in run_anchors(made, table, name):
        i = places[anchor]
        rows.append(((places[("next", name, i)], places[("prev", name, i)], run + 1),))
    return rows


def clauses_of(rules, conditions, made):
    """The clauses of the picture whose points are made."""
    rows = []
    for at, point in enumerate(made):
        rows.extend(point_clauses(at, point))
    table = rule_table(rules, made)
    for name in table:
        rows.extend(open_clauses(made, table, name))
        rows.extend(run_clauses(made, table, name))
    rows.extend([(literal_for(made, condition),) for condition in conditions])
    once = {clause: True for clause in rows}
    return tuple(once)


def all_clauses(rules, conditions, terms):
    """The clauses of the picture of calendar rules, a row of conditions and a row of terms."""
    return clauses_of(rules, conditions, all_points(rules, conditions, terms))


def clauses(question):
    """The clauses of the picture of a question."""
    return all_clauses(question[0], question_conditions(question), [])
