"""Bounds of all pairs of points, kept so that the last literals can be taken back."""


class Net:
    """The least sum of a way from each point to each other one, and the first edge of such a way.

    An edge is the index that the caller gives to a literal.
    """

    def __init__(self, size, endless):
        # A sum that no way has stands for no bound.
        self.endless = endless
        self.sums = [[0 if a == b else endless for b in range(size)] for a in range(size)]
        self.hops = [[None] * size for _ in range(size)]
        self.saved = []

    def tighten(self, u, v, w, edge):
        """Adds a literal that forms no ring; returns the list of the pairs with new sums, and the old sums."""
        endless = self.endless
        here, onward = self.sums[u], self.sums[v]
        ahead = [(y, w + step) for y, step in enumerate(onward) if step < endless and w + step < here[y]]
        pairs = []
        for x in range(len(self.sums)):
            row = self.sums[x]
            back = row[u]
            if back < endless and back + w < row[v]:
                hops = self.hops[x]
                hop = edge if x == u else hops[u]
                for y, step in ahead:
                    old = row[y]
                    if back + step < old:
                        self.saved.append((x, y, old, hops[y]))
                        row[y] = back + step
                        hops[y] = hop
                        pairs.append((x, y, old))
        return pairs

    def lowered(self, guess, head, most):
        """Values that keep all bounds, as the guess does, and that of a point is at most this."""
        if guess[head] <= most:
            return guess
        ways = [row[head] for row in self.sums]
        return [old if way == self.endless else min(old, way + most) for old, way in zip(guess, ways)]

    def mark(self):
        """What `back_to` takes to come back to the bounds of now."""
        return len(self.saved)

    def back_to(self, mark):
        """Takes back what was added behind the mark."""
        while len(self.saved) > mark:
            x, y, old, hop = self.saved.pop()
            self.sums[x][y] = old
            self.hops[x][y] = hop
