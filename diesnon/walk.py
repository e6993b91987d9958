"""A search for values that solve a problem, which changes one value after another.

It is quick where there are solutions but many choices together are wrong. It never finds out
that there is no solution.
"""

# By how much a change is worse if its point was changed a short time ago.
REST_COST = 3
# A point rests while so many parts of all points are changed.
REST_PART = 8


def is_off(row, guess):
    """True if the guess satisfies none of the literals of a row."""
    for head, tail, bound in row:
        if guess[head] - guess[tail] <= bound:
            return False
    return True


class Walk:
    """Values for the points of a problem, and the clauses that they do not satisfy, the oldest first.

    Clauses that stay so become heavier, so that values change even if that puts off others.
    """

    def __init__(self, problem, guess):
        self.problem = problem
        self.guess = list(guess)
        self.rows = [[problem.triple(lit) for lit in row] for row in problem.rows]
        self.touching = [[] for _ in guess]
        for k, row in enumerate(self.rows):
            for point in sorted(set([head for head, _, _ in row] + [tail for _, tail, _ in row])):
                self.touching[point].append(k)
        self.weights = [1] * len(self.rows)
        self.off = {k: True for k, row in enumerate(self.rows) if is_off(row, self.guess)}
        self.resting = [0] * len(self.guess)
        self.changes = 0

    def growth(self, point, number):
        """By how much the clauses that are off become heavier if the value of the point is this."""
        old = self.guess[point]
        self.guess[point] = number
        grown = 0
        for k in self.touching[point]:
            if is_off(self.rows[k], self.guess):
                if k not in self.off:
                    grown += self.weights[k]
            elif k in self.off:
                grown -= self.weights[k]
        self.guess[point] = old
        return grown

    def rest_cost(self, point):
        """What it costs that the point was changed a short time ago, if it was."""
        return REST_COST if self.resting[point] > self.changes else 0

    def ways_out(self, k):
        """The changes, as a point and its value, by which a literal of a clause is just satisfied."""
        found = []
        for head, tail, bound in self.rows[k]:
            if head != tail:
                found.append((head, self.guess[tail] + bound))
                found.append((tail, self.guess[head] - bound))
        return found

    def change(self, point, number):
        """Gives the point a value."""
        self.changes += 1
        self.guess[point] = number
        self.resting[point] = self.changes + len(self.guess) // REST_PART
        for k in self.touching[point]:
            if is_off(self.rows[k], self.guess):
                self.off[k] = True
            else:
                self.off.pop(k, None)

    def step(self):
        """Makes the change for the oldest clause that is off which is the best one for all; tells its looks."""
        ways = self.ways_out(list(self.off)[0])
        if not ways:
            return 1
        tried = [(self.growth(point, number) + self.rest_cost(point), self.resting[point], point, number)
                 for point, number in ways]
        cost, _, point, number = min(tried)
        if cost >= 0:
            for k in self.off:
                self.weights[k] += 1
        self.change(point, number)
        return sum([len(self.touching[other]) for other, _ in ways])

    def run(self, limit):
        """Values that solve the problem, None after about so many looks at clauses."""
        while limit > 0:
            if not self.off:
                return self.problem.spread(self.guess)
            limit -= self.step()
        return None
