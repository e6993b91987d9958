"""The search for values that solve a problem, or for a paper that there are none.

A literal is chosen of a clause that the guess does not satisfy, then what it leaves no choice
about is assumed, and so on, until the guess satisfies all clauses, or a clause is refuted as a
whole. The paper of the latter needs some edges. Going back from the last one, edges that left no
choice become cases around the paper, until it needs the edge of a literal that was chosen. The
paper then refutes this literal, from the level on of the last other edge that it needs.
"""

from diesnon.trail import OPEN, Refutation, Trail

# Papers of at most this weight may stand in several places of a paper. If others did, papers
# could become far heavier than the search for them was long.
LIGHT = 12
# What a step costs besides the looks at all clauses, as many looks as that.
SETUP = 20
MAX_BUMP = 1000000000000


class Conflict:
    """A clause all of whose literals are refuted, or a paper that is made of it so far."""

    def __init__(self, paper, weight):
        self.paper = paper
        self.weight = weight
        self.needs = {}

    def add_others(self, others):
        """Adds what refutations need and weigh, which stand in the paper."""
        for refutation in others.values():
            self.needs.update(refutation.needs)
            self.weight += refutation.weight


class Hunt(Trail):
    """A search through the literals of a problem."""

    def __init__(self, problem):
        super().__init__(problem)
        self.scores = [0] * len(problem.rows)
        self.bump = 1
        self.paper = self.start()

    def start(self):
        """Assumes what has no choice at all; returns a paper if that cannot be."""
        problem = self.problem
        for lit, bound in enumerate(problem.bounds):
            if problem.heads[lit] == problem.tails[lit]:
                if bound < 0:
                    self.refute(lit)
                else:
                    self.hold(lit)
        for k, clause in enumerate(problem.clauses):
            if len(clause) == 0:
                return "cases", k, ()
            if len(clause) == 1:
                lit = problem.rows[k][0]
                if self.is_in_ring(lit):
                    return self.ring_with(lit).paper
                if self.states[lit] == OPEN:
                    self.assume(lit, None, None)
        return None

    def next_conflict(self):
        """Assumes what has no choice; returns the conflict of a clause that is refuted, or None."""
        at = 0
        while at < len(self.waiting):
            k = self.waiting[at]
            at += 1
            if self.held[k] > 0:
                continue
            lits = self.open_lits(k)
            if len(lits) > 1:
                continue
            others = {lit: self.refutation(k, lit) for lit in self.problem.rows[k] if lit not in lits}
            if lits:
                self.assume(lits[0], k, others)
            else:
                return self.wrapped(k, others, None, Conflict((), 0))
        self.waiting = []
        return None

    def wrapped(self, k, others, lit, conflict):
        """The conflict as cases of a clause, of which it has the place of the literal `lit`."""
        papers = []
        for literal in self.problem.clauses[k]:
            other = self.problem.lits[literal]
            papers.append(conflict.paper if other == lit else others[other].paper)
        conflict.paper = ("cases", k, tuple(papers))
        conflict.weight += 1
        conflict.add_others(others)
        self.scores[k] += self.bump
        return conflict

    def last_chosen(self, conflict):
        """Wraps the paper of a conflict up to the last chosen edge that it needs.

        Returns the index of the edge, None if it needs none.
        """
        for at in range(len(self.edges) - 1, -1, -1):
            if at in conflict.needs:
                edge = self.edges[at]
                del conflict.needs[at]
                if edge.others is None:
                    return at
                self.wrapped(edge.home, edge.others, edge.lit, conflict)
        return None

    def learn(self, conflict, at):
        """Refutes the literal of a chosen edge by the paper of a conflict, behind all that it needs."""
        edge = self.edges[at]
        home = self.levels[edge.level - 1].home
        refutation = Refutation(conflict.paper, conflict.needs, conflict.weight)
        # What is known of the clause so far is kept, as it took a search.
        known = [other.level for other in self.tied[home].values()]
        self.back_to(max([*known, *[self.edges[need].level for need in conflict.needs]], default=0))
        if conflict.weight > LIGHT:
            self.add_tie(home, edge.lit, refutation)
        else:
            self.add_fact(edge.lit, refutation)
        self.waiting = [k for k, left in enumerate(self.left) if left < 2 and self.held[k] == 0]
        self.raise_bump()

    def raise_bump(self):
        """Lets later conflicts count more than earlier ones."""
        self.bump += self.bump // 16 + 1
        if self.bump > MAX_BUMP:
            self.scores = [score // MAX_BUMP for score in self.scores]
            self.bump = 1

    def unsolved(self):
        """A clause that the guess does not satisfy, None if there is none."""
        for k, _ in reversed(self.knots):
            # Ties are lost with their level, so their clause comes first.
            if self.held[k] == 0:
                return k
        guess, held, left, scores = self.guess, self.held, self.left, self.scores
        problem = self.problem
        gaps = [guess[head] - guess[tail] > bound
                for head, tail, bound in zip(problem.heads, problem.tails, problem.bounds)]
        found = [(left[k], -scores[k], k) for k, row in enumerate(problem.rows)
                 if held[k] == 0 and all([gaps[lit] for lit in row])]
        return min(found)[2] if found else None

    def choose(self, k):
        """Chooses the literal of a clause from which the guess is least far away."""
        guess, problem = self.guess, self.problem
        lits = self.open_lits(k)
        gaps = [(guess[problem.heads[lit]] - guess[problem.tails[lit]] - problem.bounds[lit], lit) for lit in lits]
        self.begin_level(k)
        self.assume(min(gaps)[1], k, None)

    def run(self, limit):
        """("values", values) or ("paper", paper), None after about so many looks at clauses."""
        if self.paper is not None:
            return "paper", self.paper
        while limit > 0:
            conflict = self.next_conflict()
            limit -= len(self.left) + SETUP
            if conflict is not None:
                at = self.last_chosen(conflict)
                if at is None:
                    return "paper", conflict.paper
                self.learn(conflict, at)
            else:
                k = self.unsolved()
                if k is None:
                    return "values", self.problem.spread(self.guess)
                self.choose(k)
        return None
