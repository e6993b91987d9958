"""A problem made smaller: points that are tied count as one, and each literal is there once."""

from diesnon.ties import Ties


class Problem:
    """The clauses of a problem over its literals, which are numbered, between its points.

    Here a point is what is left of all points with one root, and the number of a literal is
    changed so that it bounds the difference of such points. A literal speaks of the points
    `heads[lit]` and `tails[lit]` and of the number `bounds[lit]`.
    """

    def __init__(self, n, clauses):
        self.clauses = list(clauses)
        self.ties = Ties(n, [clause[0] for clause in clauses if len(clause) == 1])
        roots = sorted(set(self.ties.roots))
        numbers = {root: at for at, root in enumerate(roots)}
        self.many = len(roots)
        self.places = [numbers[root] for root in self.ties.roots]
        self.lits = {}
        self.rows = [self.row_of(clause) for clause in clauses]
        self.originals = list(self.lits)
        self.heads = [self.places[a] for a, _, _ in self.originals]
        self.tails = [self.places[b] for _, b, _ in self.originals]
        offsets = self.ties.offsets
        self.bounds = [c - offsets[a] + offsets[b] for a, b, c in self.originals]
        self.homes = [[] for _ in self.originals]
        for k, row in enumerate(self.rows):
            for lit in row:
                self.homes[lit].append(k)

    def row_of(self, clause):
        """The literals of a clause, each once, as numbers."""
        row = {self.lits.setdefault(literal, len(self.lits)): True for literal in clause}
        return list(row)

    def beyond(self):
        """A number that is greater than the sum of each way without a ring, and than each bound."""
        return 2 * (self.many + 1) * (1 + max([abs(bound) for bound in self.bounds], default=0))

    def watchers(self):
        """For each pair of points the literals between them; True if they begin with the first one."""
        watched = [[[] for _ in range(self.many)] for _ in range(self.many)]
        for lit, (head, tail) in enumerate(zip(self.heads, self.tails)):
            watched[head][tail].append((lit, True))
            watched[tail][head].append((lit, False))
        return watched
