"""Solves problems, by values or by a paper that there are none."""

from diesnon.hunt import Hunt
from diesnon.learner import Learner
from diesnon.literals import all_hold
from diesnon.papers import MAX_DEPTH, check_clauses, depth_of
from diesnon.problem import Problem
from diesnon.walk import Walk

# After so many looks at clauses a problem is searched in three ways, in turns that become longer.
PATIENCE = 50000


def solves(n, clauses, values):
    """True if the values solve the problem."""
    check_clauses(n, clauses)
    return all_hold(clauses, values)


def without_repeats(paper):
    """The paper without cases of a clause that stand within cases of the same one.

    What stands there for the literal that is assumed already takes their place.
    """
    taken = {}
    made = []
    steps = [("paper", paper, 0)]
    while steps:
        word, told, at = steps.pop()
        if word == "take":
            taken[told] = at
        elif word == "drop":
            del taken[told]
        elif word == "join":
            begin = len(made) - at
            made[begin:] = [("cases", told, tuple(made[begin:]))]
        elif told[0] == "ring":
            made.append(told)
        elif told[1] in taken:
            steps.append(("paper", told[2][taken[told[1]]], 0))
        else:
            k, papers = told[1], told[2]
            steps.append(("join", k, len(papers)))
            for index in range(len(papers) - 1, -1, -1):
                steps.extend([("drop", k, 0), ("paper", papers[index], 0), ("take", k, index)])
    return made[0]


def searched(problem):
    """What the search tells that ends first: one tells papers, too, and two only find values."""
    hunt = Hunt(problem)
    limit = PATIENCE
    told = hunt.run(limit)
    if told is None:
        others = [Walk(problem, hunt.guess), Learner(problem)]
    while told is None:
        limit *= 2
        for other in others:
            values = other.run(limit)
            if values is not None:
                return "values", values
        told = hunt.run(limit)
    return told


def solved(n, clauses):
    """The same as `solve` for a problem that is known to be one."""
    word, told = searched(Problem(n, clauses))
    if word == "paper" and depth_of(told) > MAX_DEPTH:
        return "paper", without_repeats(told)
    return word, told


def solve(n, clauses):
    """Values that solve the problem, or a paper that is accepted for it."""
    check_clauses(n, clauses)
    return solved(n, clauses)
