"""Points that clauses of one literal tie to one another, so that their differences are fixed."""


class Ties:
    """For each point its root, how far it is behind the root, and the literals that tie it to others."""

    def __init__(self, n, literals):
        self.links = [[] for _ in range(n)]
        self.roots = list(range(n))
        self.offsets = [0] * n
        once = {literal: True for literal in literals}
        for a, b, c in once:
            if (b, a, -c) in once and self.roots[a] != self.roots[b]:
                self.tie(a, b, c)

    def tie(self, a, b, c):
        """Ties two points with different roots; the value of a is that of b, plus c."""
        self.links[a].append((a, b, c))
        self.links[b].append((b, a, -c))
        gone, root = self.roots[a], self.roots[b]
        shift = self.offsets[b] + c - self.offsets[a]
        moved = [at for at, other in enumerate(self.roots) if other == gone]
        for at in moved:
            self.roots[at] = root
            self.offsets[at] += shift

    def way(self, a, b):
        """The list of the literals of the way from a to b, two points with one root."""
        # Links make trees, so there is just one way that does not turn back.
        arrived = {b: None}
        rows = [b]
        while a not in arrived:
            point = rows.pop()
            for first, second, c in self.links[point]:
                if second not in arrived:
                    arrived[second] = (second, first, -c)
                    rows.append(second)
        literals = []
        while a != b:
            literals.append(arrived[a])
            a = arrived[a][1]
        return literals
