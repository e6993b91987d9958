"""Literals, which bound the difference of two points, and clauses, of which one literal holds."""


def denial(literal):
    """The literal that says the opposite."""
    a, b, c = literal
    return b, a, -c - 1


def literal_holds(literal, values):
    """True if the literal holds for the values of the points."""
    a, b, c = literal
    return values[a] - values[b] <= c


def clause_holds(clause, values):
    """True if at least one literal of the clause holds."""
    return any([literal_holds(literal, values) for literal in clause])


def all_hold(rows, values):
    """True if each of the clauses holds."""
    return all([clause_holds(clause, values) for clause in rows])
