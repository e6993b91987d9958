"""Literals, which bound differences of two points, and the rings that they may form."""

from diesnon.errors import NotAllowed

MAX_POINTS = 80


def check_points(n):
    """Raises NotAllowed if there may not be n points."""
    if not 1 <= n <= MAX_POINTS:
        raise NotAllowed("the number of points is out of range")


def check_literals(n, literals):
    """Raises NotAllowed if there may not be n points, or if a literal names another point."""
    check_points(n)
    for a, b, _ in literals:
        if not (0 <= a < n and 0 <= b < n):
            raise NotAllowed("a literal names what is not a point")


def satisfies(values, literals):
    """True if the values satisfy all literals of a list."""
    return all([values[a] - values[b] <= c for a, b, c in literals])


def is_ring(ring):
    """True if the tuple of triples is a ring."""
    if len(ring) == 0:
        return False
    linked = all([ring[at - 1][1] == ring[at][0] for at in range(len(ring))])
    return linked and sum([literal[2] for literal in ring]) < 0


def lower(values, causes, literals):
    """Lowers values once as each literal asks, in order, and notes it as the cause.

    Returns a point that was lowered, None if there is none.
    """
    lowered = None
    for literal in literals:
        a, b, c = literal
        if values[b] + c < values[a]:
            values[a] = values[b] + c
            causes[a] = literal
            lowered = a
    return lowered


def ring_behind(causes, point):
    """The ring to which the causes lead, from a point on."""
    # The causes may lead to the ring before they go around it.
    for _ in range(len(causes)):
        point = causes[point][1]
    ring = [causes[point]]
    while ring[-1][1] != point:
        ring.append(causes[ring[-1][1]])
    return tuple(ring)


def find_ring(n, literals):
    """A ring of literals of the list, None if there is none."""
    check_literals(n, literals)
    values = [0] * n
    causes = [None] * n
    lowered = None
    for _ in range(n):
        lowered = lower(values, causes, literals)
        if lowered is None:
            return None
    # Ways without a ring have less than n literals, and would ask for nothing in round n.
    return ring_behind(causes, lowered)
