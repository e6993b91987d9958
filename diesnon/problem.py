"""A problem made smaller: points that are tied count as one, and each literal is there once."""

from diesnon.ties import Ties


class Watch:
    """Literals with the same points, in ascending order of their bounds."""

    def __init__(self, pairs):
        self.bounds = [bound for bound, _ in pairs]
        self.lits = [lit for _, lit in pairs]

    def place(self, least):
        """The index of the first literal whose bound is at least this."""
        low, high = 0, len(self.bounds)
        while low < high:
            middle = (low + high) // 2
            if self.bounds[middle] < least:
                low = middle + 1
            else:
                high = middle
        return low

    def between(self, least, behind):
        """The literals whose bounds are at least `least` and less than `behind`."""
        if self.bounds[-1] < least or self.bounds[0] >= behind:
            return []
        return self.lits[self.place(least):self.place(behind)]


class Problem:
    """The clauses of a problem over its literals, which are numbered, between its points.

    Here a point is what is left of all points with one root, and the number of a literal is
    changed so that it bounds the difference of such points. A literal speaks of the points
    `heads[lit]` and `tails[lit]` and of the number `bounds[lit]`.
    """

    def __init__(self, n, clauses):
        self.clauses = list(clauses)
        self.ties = Ties(n, [clause[0] for clause in clauses if len(clause) == 1])
        roots = sorted(set(self.ties.roots))
        numbers = {root: at for at, root in enumerate(roots)}
        self.many = len(roots)
        self.places = [numbers[root] for root in self.ties.roots]
        self.lits = {}
        self.rows = [self.row_of(clause) for clause in clauses]
        self.originals = list(self.lits)
        self.heads = [self.places[a] for a, _, _ in self.originals]
        self.tails = [self.places[b] for _, b, _ in self.originals]
        offsets = self.ties.offsets
        self.bounds = [c - offsets[a] + offsets[b] for a, b, c in self.originals]
        self.homes = [[] for _ in self.originals]
        for k, row in enumerate(self.rows):
            for lit in row:
                self.homes[lit].append(k)

    def row_of(self, clause):
        """The literals of a clause, each once, as numbers."""
        row = {self.lits.setdefault(literal, len(self.lits)): True for literal in clause}
        return list(row)

    def triple(self, lit):
        """The head, the tail and the bound of a literal."""
        return self.heads[lit], self.tails[lit], self.bounds[lit]

    def spread(self, guess):
        """The values of all points of the problem for those of what is left; that of point 0 is 0."""
        found = [guess[place] + offset for place, offset in zip(self.places, self.ties.offsets)]
        return tuple([number - found[0] for number in found])

    def beyond(self):
        """A number that is greater than the sum of each way without a ring, and than each bound."""
        return 2 * (self.many + 1) * (1 + max([abs(bound) for bound in self.bounds], default=0))

    def make_watches(self):
        """For each head and tail a watch of the literals with these points, None if there are none."""
        found = [[[] for _ in range(self.many)] for _ in range(self.many)]
        for lit, bound in enumerate(self.bounds):
            found[self.heads[lit]][self.tails[lit]].append((bound, lit))
        return [[Watch(sorted(pairs)) if pairs else None for pairs in row] for row in found]
