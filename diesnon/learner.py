"""A search for values that solve a problem which learns clauses, and tells no papers.

It is quick where many choices together are wrong, as it never makes the same ones again. A
literal here is a triple of a head, a tail and a bound, as of `Problem`.
"""

from diesnon.literals import denial
from diesnon.net import Net
from diesnon.walk import is_off

ROUND = 50
MAX_LEARNED = 1000
# What a step costs besides the looks at all clauses, as many looks as that.
SETUP = 50
MAX_BUMP = 1000000000000


class Step:
    """A literal that is assumed, and the indexes of the steps from which it follows.

    `causes` is None if it was chosen, `row` is the clause from which it follows.
    """

    def __init__(self, literal, level, row, causes):
        self.literal = literal
        self.level = level
        self.row = row
        self.causes = causes


class Row:
    """The literals of a clause, of which the first two are watched, and how often it mattered."""

    def __init__(self, literals, learned):
        self.parts = literals
        self.learned = learned
        self.score = 0


class Learner:
    """Clauses of a problem, those that are learned, and the steps so far.

    `rows` are the clauses that are not settled, `watching` tells for each pair of points the
    clauses that watch a literal which is refuted by a bound of this pair. `hopeless` is True if
    there are no values.
    """

    def __init__(self, problem):
        self.problem = problem
        self.net = Net(problem.many, problem.beyond())
        self.guess = [0] * problem.many
        self.rows = [Row([problem.triple(lit) for lit in row], False) for row in problem.rows]
        self.steps = []
        self.levels = []
        self.changed = []
        self.bump = 1
        self.hopeless = False
        self.turn = 1
        self.length = 1
        self.left = ROUND
        self.settle()

    def is_refuted(self, literal):
        """True if the literal forms a ring with steps."""
        head, tail, bound = literal
        return self.net.sums[tail][head] + bound < 0

    def is_held(self, literal):
        """True if the literal follows from steps."""
        head, tail, bound = literal
        return self.net.sums[head][tail] <= bound

    def take_step(self, literal, row, causes):
        """Assumes a literal that is neither held nor refuted."""
        head, tail, bound = literal
        pairs = self.net.tighten(head, tail, bound, len(self.steps))
        self.steps.append(Step(literal, len(self.levels), row, causes))
        self.guess = self.net.lowered(self.guess, head, self.guess[tail] + bound)
        self.changed.extend(pairs)

    def settle(self):
        """Behind no choice: assumes what follows, drops what is settled, watches all other clauses."""
        before = -1
        while before < len(self.steps) and not self.hopeless:
            before = len(self.steps)
            unsettled = [row for row in self.rows if not any([self.is_held(literal) for literal in row.parts])]
            self.rows = []
            for row in unsettled:
                row.parts = [literal for literal in row.parts if not self.is_refuted(literal)]
                if len(row.parts) > 1:
                    self.rows.append(row)
                elif not row.parts:
                    self.hopeless = True
                elif not self.is_held(row.parts[0]):
                    self.take_step(row.parts[0], row, [])
        self.changed = []
        self.watching = [[[] for _ in range(self.problem.many)] for _ in range(self.problem.many)]
        for row in self.rows:
            self.watch(row)

    def watch(self, row):
        """Watches the first two literals of a clause."""
        for head, tail, _ in row.parts[:2]:
            self.watching[tail][head].append(row)

    def causes_of(self, literals):
        """The indexes of the steps by which the literals are refuted, each once, without level 0."""
        found = {}
        for head, tail, _ in literals:
            point = tail
            while point != head:
                at = self.net.hops[point][head]
                step = self.steps[at]
                if step.level > 0:
                    found[at] = True
                point = step.literal[1]
        return list(found)

    def refuted_row(self):
        """Assumes what follows; returns a clause all of whose literals are refuted, or None."""
        at = 0
        while at < len(self.changed):
            x, y, _ = self.changed[at]
            at += 1
            rows = list(self.watching[x][y])
            self.watching[x][y] = []
            for index, row in enumerate(rows):
                if not self.is_followed(row, x, y):
                    self.watching[x][y].extend(rows[index + 1:])
                    self.changed = []
                    return row
        self.changed = []
        return None

    def is_gone(self, literal, x, y):
        """True if the literal is refuted by a bound of this pair of points."""
        head, tail, _ = literal
        return tail == x and head == y and self.is_refuted(literal)

    def is_followed(self, row, x, y):
        """Looks at a clause that watched this pair; returns False if all its literals are refuted."""
        literals = row.parts
        if self.is_gone(literals[0], x, y):
            literals[0], literals[1] = literals[1], literals[0]
        if not self.is_gone(literals[1], x, y) or self.is_held(literals[0]):
            self.watching[x][y].append(row)
            return True
        for at in range(2, len(literals)):
            if not self.is_refuted(literals[at]):
                literals[1], literals[at] = literals[at], literals[1]
                self.watching[literals[1][1]][literals[1][0]].append(row)
                return True
        self.watching[x][y].append(row)
        if self.is_refuted(literals[0]):
            return False
        self.take_step(literals[0], row, self.causes_of(literals[1:]))
        return True

    def raise_score(self, row):
        """Notes that a clause mattered; later is more."""
        row.score += self.bump

    def needs_of(self, row):
        """The steps that a refuted clause needs, just one of them of its level, which is the last.

        None if it needs none.
        """
        self.raise_score(row)
        needs = {at: True for at in self.causes_of(row.parts)}
        if not needs:
            return None
        last = max(needs)
        level = self.steps[last].level
        while len([at for at in needs if self.steps[at].level == level]) > 1:
            step = self.steps[last]
            self.raise_score(step.row)
            del needs[last]
            needs.update({at: True for at in step.causes})
            last = max(needs)
        return [at for at in sorted(needs) if at == last or not self.is_spare(at, needs)]

    def is_spare(self, at, needs):
        """True if a step follows from others that are needed, too."""
        causes = self.steps[at].causes
        return causes is not None and all([cause in needs for cause in causes])

    def learn(self, row):
        """Learns from a refuted clause that the steps that it needs do not go together."""
        needs = self.needs_of(row)
        if needs is None:
            self.hopeless = True
            return
        needs.reverse()
        others = needs[1:]
        literals = [denial(self.steps[at].literal) for at in needs]
        self.back_to(max([self.steps[at].level for at in others], default=0))
        learned = Row(literals, True)
        self.raise_score(learned)
        if others:
            self.rows.append(learned)
            self.watch(learned)
        self.take_step(literals[0], learned, others)
        self.bump += self.bump // 16 + 1
        if self.bump > MAX_BUMP:
            for one in self.rows:
                one.score = one.score // MAX_BUMP
            self.bump = 1

    def back_to(self, level):
        """Takes back all that came behind a level."""
        if level < len(self.levels):
            steps, mark = self.levels[level]
            del self.levels[level:]
            del self.steps[steps:]
            self.net.back_to(mark)

    def begin_anew(self):
        """Takes back all choices and keeps the learned clauses that mattered most."""
        self.back_to(0)
        learned = sorted([row for row in self.rows if row.learned], key=lambda row: -row.score)
        self.rows = [row for row in self.rows if not row.learned] + learned[:MAX_LEARNED]
        self.settle()
        # Rounds of 1, 1, 2, 1, 1, 2, 4, 1 .. times the same length: long ones, but not too often.
        if self.turn & -self.turn == self.length:
            self.turn += 1
            self.length = 1
        else:
            self.length *= 2
        self.left = ROUND * self.length

    def unsolved(self):
        """The clause that mattered most of those that the guess does not satisfy, None if there is none."""
        guess = self.guess
        found = [row for row in self.rows if is_off(row.parts, guess)]
        return max(found, key=lambda row: row.score) if found else None

    def choose(self, row):
        """Chooses the literal of a clause from which the guess is least far away."""
        guess = self.guess
        gaps = [(guess[head] - guess[tail] - bound, (head, tail, bound))
                for head, tail, bound in row.parts if not self.is_refuted((head, tail, bound))]
        self.levels.append((len(self.steps), self.net.mark()))
        self.take_step(min(gaps)[1], row, None)

    def run(self, limit):
        """Values that solve the problem, None if there are none or after about so many looks at clauses."""
        while limit > 0 and not self.hopeless:
            row = self.refuted_row()
            limit -= len(self.rows) + SETUP
            if row is not None:
                self.left -= 1
                self.learn(row)
            elif self.left <= 0:
                self.begin_anew()
            else:
                row = self.unsolved()
                if row is None:
                    return self.problem.spread(self.guess)
                self.choose(row)
        return None
