"""The greatest and the least differences of two terms in all worlds."""

from diesnon.decide import picture
from diesnon.errors import Never
from diesnon.literals import literal_holds
from diesnon.papers import MAX_CLAUSES, is_accepted
from diesnon.points import point_of
from diesnon.realize import world_of_values
from diesnon.search import solved

# One clause more is needed for a bound of the difference.
MAX_ROWS = MAX_CLAUSES - 1
PATIENCE = 3


def term_picture(rules, assumptions, terms):
    """The points and clauses of the picture of rules, assumptions and terms."""
    return picture(rules, list(assumptions), terms, MAX_ROWS)


def at_least(i, j, n):
    """The clause that the value of i is at least n greater than that of j."""
    return ((j, i, -n),)


def chosen_literals(rows, values):
    """One literal of each clause that the values satisfy, each once."""
    chosen = {}
    for clause in rows:
        for literal in clause:
            if literal_holds(literal, values):
                chosen[literal] = True
                break
    return list(chosen)


def least_ways(n, literals, i):
    """The least sum of a way from i to each point, None where there is none."""
    sums = [None] * n
    sums[i] = 0
    lowered = True
    while lowered:
        lowered = False
        for a, b, c in literals:
            if sums[a] is not None and (sums[b] is None or sums[a] + c < sums[b]):
                sums[b] = sums[a] + c
                lowered = True
    return sums


def farthest(rows, values, i, j):
    """Values of the same choice of literals whose difference of i and j is the greatest.

    None if there is no greatest one.
    """
    literals = chosen_literals(rows, values)
    sums = least_ways(len(values), literals, i)
    if sums[j] is None:
        return None
    # Points to which no way leads are moved so far back that nothing of them is in the way.
    back = max([values[a] + sums[b] - c for a, b, c in literals if sums[a] is None and sums[b] is not None],
               default=0)
    moved = [values[a] - back if way is None else -way for a, way in enumerate(sums)]
    return [number - moved[0] for number in moved]


def beyond_all(rows, n):
    """A difference that no way reaches, as no way without a ring has a sum that great."""
    return n * max([abs(literal[2]) for clause in rows for literal in clause], default=0) + 1


def climb(rows, values, i, j):
    """The values with the greatest difference of i and j, and a paper that there is no greater one.

    None if the difference is endless. It begins with values that solve the clauses.
    """
    n = len(values)
    rounds = 0
    while True:
        best = farthest(rows, values, i, j)
        if best is None:
            return None
        rounds += 1
        if rounds == PATIENCE and solved(n, [*rows, at_least(i, j, beyond_all(rows, n))])[0] == "values":
            return None
        word, told = solved(n, [*rows, at_least(i, j, best[i] - best[j] + 1)])
        if word == "paper":
            return best, told
        values = told


def some_values(n, rows):
    """Values that solve the clauses; raises Never if there are none."""
    word, told = solved(n, rows)
    if word == "paper":
        raise Never("there are no worlds")
    return told


def greatest(rules, assumptions, t, u):
    """The greatest difference of t and u, a world that has it, and a paper that none is greater."""
    made, rows = term_picture(rules, assumptions, [t, u])
    i, j = point_of(made, t), point_of(made, u)
    found = climb(rows, some_values(len(made), rows), i, j)
    if found is None:
        return ("endless",)
    values, paper = found
    return "most", values[i] - values[j], world_of_values(rules, made, values), paper


def least(rules, assumptions, t, u):
    """The least difference of t and u, a world that has it, and a paper that none is less."""
    told = greatest(rules, assumptions, u, t)
    if told[0] == "endless":
        return told
    _, most, world, paper = told
    return "least", -most, world, paper


def difference(rows, values, i, j):
    """The greatest difference of i and j, None if it is endless."""
    found = climb(rows, values, i, j)
    return None if found is None else found[0][i] - found[0][j]


def span(rules, assumptions, t, u):
    """The least and the greatest difference of t and u, None for one that is endless."""
    ends = span_worlds(rules, assumptions, t, u)
    return tuple([None if end is None else end[0] for end in ends])


def span_worlds(rules, assumptions, t, u):
    """The least and the greatest difference of t and u, each with a world, None for one that is endless."""
    made, rows = term_picture(rules, assumptions, [t, u])
    i, j = point_of(made, t), point_of(made, u)
    values = some_values(len(made), rows)
    ends = []
    for found in (climb(rows, values, j, i), climb(rows, values, i, j)):
        if found is None:
            ends.append(None)
        else:
            best, _ = found
            ends.append((best[i] - best[j], world_of_values(rules, made, best)))
    return ends


def check_most(rules, assumptions, t, u, v, paper):
    """True if the paper is an accepted paper for at most v."""
    made, rows = term_picture(rules, assumptions, [t, u])
    i, j = point_of(made, t), point_of(made, u)
    return is_accepted([*rows, at_least(i, j, v + 1)], paper)


def table(rules, assumptions, terms):
    """The greatest differences of all pairs of terms, in rows, None for one that is endless."""
    made, rows = term_picture(rules, assumptions, terms)
    values = some_values(len(made), rows)
    places = [point_of(made, term) for term in terms]
    return [[difference(rows, values, i, j) for j in places] for i in places]
