"""The literals that a search has assumed so far, and what follows from them."""

from diesnon.net import Net

OPEN = 0
HELD = 1
REFUTED = 2


class Edge:
    """A literal that is assumed, at a level of the search.

    `home` is the clause of which it is assumed, None if that has one literal. `others` are the
    refutations of the other literals of the clause, under their numbers, None if it was chosen.
    """

    def __init__(self, lit, level, home, others):
        self.lit = lit
        self.level = level
        self.home = home
        self.others = others


class Refutation:
    """A paper that shows that a literal, besides edges, has no values.

    `needs` has the indexes of the edges of which the paper uses the literals, `weight` is that of
    the paper, and `level` that from which on it is known.
    """

    def __init__(self, paper, needs, weight):
        self.paper = paper
        self.needs = needs
        self.weight = weight
        self.level = 0


class Level:
    """How things stood when a level began with a literal of the clause `home`."""

    def __init__(self, home, edges, net, told, tied):
        self.home = home
        self.edges = edges
        self.net = net
        self.told = told
        self.tied = tied


class Trail:
    """The edges, and for each literal whether it is held by them, refuted, or neither.

    `facts` are refutations of literals, used in all clauses, `tied` those that are used in the
    clause `home` alone. `held` and `left` tell of each clause how many of its literals are held,
    and how many are not refuted. `guess` are values that satisfy the edges.
    """

    def __init__(self, problem):
        self.problem = problem
        self.net = Net(problem.many, problem.beyond())
        self.watches = problem.make_watches()
        self.guess = [0] * problem.many
        self.states = [OPEN] * len(problem.originals)
        self.facts = {}
        self.tied = [{} for _ in problem.rows]
        self.held = [0] * len(problem.rows)
        self.left = [len(row) for row in problem.rows]
        self.edges = []
        self.levels = []
        self.told = []
        self.knots = []
        self.waiting = []

    def hold(self, lit):
        """Notes that a literal is held."""
        self.states[lit] = HELD
        self.told.append(lit)
        for k in self.problem.homes[lit]:
            self.held[k] += 1

    def refute(self, lit):
        """Notes that a literal is refuted; clauses with one literal left wait to be looked at."""
        self.states[lit] = REFUTED
        self.told.append(lit)
        left = self.left
        for k in self.problem.homes[lit]:
            left[k] -= 1
            if left[k] < 2:
                self.waiting.append(k)

    def add_fact(self, lit, refutation):
        """Refutes a literal in all clauses."""
        self.facts[lit] = refutation
        self.refute(lit)

    def add_tie(self, home, lit, refutation):
        """Refutes a literal in one clause."""
        refutation.level = len(self.levels)
        self.tied[home][lit] = refutation
        self.knots.append((home, lit))
        self.left[home] -= 1

    def open_lits(self, k):
        """The literals of a clause that are neither held nor refuted there."""
        tied = self.tied[k]
        return [lit for lit in self.problem.rows[k] if self.states[lit] == OPEN and lit not in tied]

    def begin_level(self, home):
        """Begins a level with a literal of the clause."""
        level = Level(home, len(self.edges), self.net.mark(), len(self.told), len(self.knots))
        self.levels.append(level)

    def back_to(self, level):
        """Takes back all that came behind a level."""
        if level == len(self.levels):
            return
        before = self.levels[level]
        del self.levels[level:]
        del self.edges[before.edges:]
        self.net.back_to(before.net)
        while len(self.told) > before.told:
            self.untell(self.told.pop())
        while len(self.knots) > before.tied:
            k, lit = self.knots.pop()
            del self.tied[k][lit]
            self.left[k] += 1

    def untell(self, lit):
        """Takes back that a literal is held or refuted."""
        homes = self.problem.homes[lit]
        if self.states[lit] == HELD:
            for k in homes:
                self.held[k] -= 1
        else:
            self.facts.pop(lit, None)
            for k in homes:
                self.left[k] += 1
        self.states[lit] = OPEN

    def assume(self, lit, home, others):
        """Adds an open literal as an edge, and notes what follows from it."""
        head, tail, bound = self.problem.triple(lit)
        pairs = self.net.tighten(head, tail, bound, len(self.edges))
        self.edges.append(Edge(lit, len(self.levels), home, others))
        self.guess = self.net.lowered(self.guess, head, self.guess[tail] + bound)
        for x, y, old in pairs:
            self.note_sum(x, y, old)

    def note_sum(self, x, y, old):
        """Notes which open literals are held or refuted as a sum is less than the old one."""
        least = self.net.sums[x][y]
        straight, crossing = self.watches[x][y], self.watches[y][x]
        if straight is not None:
            for lit in straight.between(least, old):
                if self.states[lit] == OPEN:
                    self.hold(lit)
        if crossing is not None:
            for lit in crossing.between(-old, -least):
                if self.states[lit] == OPEN:
                    self.refute(lit)

    def is_in_ring(self, lit):
        """True if the literal forms a ring with edges."""
        back = self.net.sums[self.problem.tails[lit]][self.problem.heads[lit]]
        return back + self.problem.bounds[lit] < 0

    def ring_with(self, lit):
        """The refutation of a literal by a ring that it forms with edges."""
        ties, literals = self.problem.ties, self.problem.originals
        ring = [literals[lit]]
        needs = {}
        point, goal = self.problem.tails[lit], self.problem.heads[lit]
        while point != goal:
            at = self.net.hops[point][goal]
            edge = self.edges[at]
            if edge.home is not None:
                needs[at] = True
            ring.extend(ties.way(ring[-1][1], literals[edge.lit][0]))
            ring.append(literals[edge.lit])
            point = self.problem.tails[edge.lit]
        ring.extend(ties.way(ring[-1][1], ring[0][0]))
        return Refutation(("ring", tuple(ring)), needs, 1)

    def refutation(self, k, lit):
        """The refutation of a literal of a clause."""
        if self.is_in_ring(lit):
            return self.ring_with(lit)
        if lit in self.tied[k]:
            return self.tied[k][lit]
        return self.facts[lit]
