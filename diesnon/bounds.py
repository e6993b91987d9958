"""Literals that some values satisfy, with the bounds that follow from them."""

from diesnon.errors import Missing, NotAllowed
from diesnon.rings import check_literals, check_points


def tightened(row, a, c, onward):
    """The bounds from a point, with the ways that go over a literal from the point a.

    c is the number of the literal, onward the bounds from its second point.
    """
    if row[a] is None:
        return row
    begin = row[a] + c
    found = []
    for old, step in zip(row, onward):
        if step is None or (old is not None and old <= begin + step):
            found.append(old)
        else:
            found.append(begin + step)
    return found


class Bounds:
    """Keeps literals for n points, and the bounds of all pairs of points."""

    def __init__(self, n):
        check_points(n)
        self.number = n
        self.kept = []
        self.rows = [[0 if a == b else None for b in range(n)] for a in range(n)]

    def size(self):
        """The number of points."""
        return self.number

    def add(self, a, b, c):
        """Adds a literal; returns False if it is refused, otherwise True."""
        check_literals(self.number, [(a, b, c)])
        back = self.rows[b][a]
        if back is not None and back + c < 0:
            return False
        self.kept.append((a, b, c))
        old = self.rows[a][b]
        if old is None or c < old:
            onward = self.rows[b]
            self.rows = [tightened(row, a, c, onward) for row in self.rows]
        return True

    def literals(self):
        """The list of the literals that are kept, in order."""
        return list(self.kept)

    def bound(self, a, b):
        """The bound of two points, None if there is none."""
        check_literals(self.number, [(a, b, 0)])
        return self.rows[a][b]

    def any_values(self):
        """Values that satisfy all literals that are kept."""
        lowest = [min([way for way in row if way is not None]) for row in self.rows]
        return tuple([low - lowest[0] for low in lowest])

    def values_at(self, a, b):
        """Such values whose difference of a and b is the bound."""
        bound = self.bound(a, b)
        if bound is None:
            raise Missing("a bound")
        return self.values_with(a, b, bound)

    def values_beyond(self, a, b, least):
        """Such values whose difference of a and b, which has no bound, is at least `least`."""
        if self.bound(a, b) is not None:
            raise NotAllowed("the difference has a bound")
        return self.values_with(a, b, least)

    def values_with(self, a, b, least):
        """Such values whose difference of a and b is at least `least`, up to the bound."""
        other = self.copy()
        other.add(b, a, -least)
        return other.any_values()

    def copy(self):
        """A Bounds that keeps the same literals."""
        other = Bounds(self.number)
        other.kept = list(self.kept)
        other.rows = [list(row) for row in self.rows]
        return other
