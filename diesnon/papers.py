"""Papers, which show that a problem has no solution, and the checker that replays them.

Papers may be far deeper than calls may be within calls, so they are gone through with stacks.
"""

from diesnon.errors import NotAllowed
from diesnon.kinds import is_integer
from diesnon.rings import check_literals, check_points, is_ring

MAX_CLAUSES = 8000
MAX_DEPTH = 8000


def check_clauses(n, clauses):
    """Raises NotAllowed if n points and these clauses are not a problem."""
    check_points(n)
    if len(clauses) > MAX_CLAUSES:
        raise NotAllowed("there are too many clauses")
    for clause in clauses:
        check_literals(n, clause)


def single_literals(clauses):
    """The index of the first clause of which a literal is the only one, for each such literal."""
    table = {}
    for at, clause in enumerate(clauses):
        if len(clause) == 1:
            table.setdefault(clause[0], at)
    return table


def is_literal(value):
    """True if the value is a triple of integers."""
    return isinstance(value, tuple) and len(value) == 3 and all([is_integer(part) for part in value])


def is_ring_form(paper):
    """True if the value has the form of a ring."""
    if not (isinstance(paper, tuple) and len(paper) == 2 and paper[0] == "ring"):
        return False
    return isinstance(paper[1], tuple) and all([is_literal(part) for part in paper[1]])


def is_cases_form(paper, clauses):
    """True if the value has the form of cases of one of the clauses; its papers may be wrong."""
    if not (isinstance(paper, tuple) and len(paper) == 3 and paper[0] == "cases"):
        return False
    _, k, papers = paper
    if not (is_integer(k) and 0 <= k < len(clauses) and isinstance(papers, tuple)):
        return False
    return len(papers) == len(clauses[k])


class Assumed:
    """The literals that are assumed on the way to a part of a paper, each as often as it is."""

    def __init__(self):
        self.counts = {}

    def assume(self, literal):
        """Assumes a literal once more."""
        self.counts[literal] = self.counts.get(literal, 0) + 1

    def release(self, literal):
        """Takes one assumption of a literal back."""
        self.counts[literal] -= 1

    def has(self, literal):
        """True if the literal is assumed."""
        return self.counts.get(literal, 0) > 0


def case_steps(literals, papers, depth):
    """The steps through the papers of cases, the last one first, as a stack takes them."""
    steps = []
    for literal, paper in reversed(list(zip(literals, papers))):
        steps.extend([("release", literal, 0), ("paper", paper, depth), ("assume", literal, 0)])
    return steps


def is_accepted(clauses, paper):
    """True if the paper is accepted for the clauses."""
    single = single_literals(clauses)
    assumed = Assumed()
    steps = [("paper", paper, 0)]
    while steps:
        word, told, depth = steps.pop()
        if word == "assume":
            assumed.assume(told)
        elif word == "release":
            assumed.release(told)
        elif is_ring_form(told):
            if not is_ring(told[1]):
                return False
            if not all([assumed.has(literal) or literal in single for literal in told[1]]):
                return False
        elif is_cases_form(told, clauses) and depth < MAX_DEPTH:
            steps.extend(case_steps(clauses[told[1]], told[2], depth + 1))
        else:
            return False
    return True


def check_paper(n, clauses, paper):
    """True if the paper is accepted for the problem."""
    check_clauses(n, clauses)
    return is_accepted(clauses, paper)


def check_accepted(n, clauses, paper):
    """Raises NotAllowed if the paper is not accepted for the problem."""
    if not check_paper(n, clauses, paper):
        raise NotAllowed("the paper is not accepted")


def parts_with_depths(paper):
    """The rings and cases of a paper from left to right, each with the number of cases around it."""
    found = []
    rows = [(paper, 0)]
    while rows:
        part, depth = rows.pop()
        found.append((part, depth))
        if part[0] == "cases":
            rows.extend([(inner, depth + 1) for inner in reversed(part[2])])
    return found


def depth_of(paper):
    """How deep the cases of a paper stand within one another."""
    return max([depth + 1 for part, depth in parts_with_depths(paper) if part[0] == "cases"], default=0)


def weight(paper):
    """The number of the rings and cases of a paper."""
    return len(parts_with_depths(paper))


def rings_of(paper):
    """The list of the rings of a paper, from left to right."""
    return [part[1] for part, _ in parts_with_depths(paper) if part[0] == "ring"]


def clauses_used(clauses, paper):
    """The ascending list of the indexes of the clauses that a paper uses, which is accepted."""
    single = single_literals(clauses)
    assumed = Assumed()
    used = {}
    steps = [("paper", paper, 0)]
    while steps:
        word, told, _ = steps.pop()
        if word == "assume":
            assumed.assume(told)
        elif word == "release":
            assumed.release(told)
        elif told[0] == "ring":
            used.update({single[literal]: True for literal in told[1] if not assumed.has(literal)})
        else:
            used[told[1]] = True
            steps.extend(case_steps(clauses[told[1]], told[2], 0))
    return sorted(used)


def used_clauses(n, clauses, paper):
    """The indexes of the clauses that an accepted paper uses."""
    check_accepted(n, clauses, paper)
    return clauses_used(clauses, paper)


class Trimmed:
    """A trimmed paper, the literals that it needs, and whether trimming changed it."""

    def __init__(self, paper, needs, changed):
        self.paper = paper
        self.needs = needs
        self.changed = changed


def joined_needs(literals, parts):
    """The literals that cases need, of which each needs the literal of its index."""
    needs = {}
    for literal, part in zip(literals, parts):
        del part.needs[literal]
        few, many = (part.needs, needs) if len(part.needs) < len(needs) else (needs, part.needs)
        # The larger dict takes the other one in, as papers may be deep and need many literals.
        many.update(few)
        needs = many
    return needs


def trimmed_cases(paper, literals, parts):
    """Cases trimmed, whose papers, trimmed, are the parts."""
    for literal, part in zip(literals, parts):
        if literal not in part.needs:
            return Trimmed(part.paper, part.needs, True)
    if any([part.changed for part in parts]):
        made = ("cases", paper[1], tuple([part.paper for part in parts]))
        return Trimmed(made, joined_needs(literals, parts), True)
    return Trimmed(paper, joined_needs(literals, parts), False)


def trimmed(n, clauses, paper):
    """The trimmed paper of an accepted one."""
    check_accepted(n, clauses, paper)
    single = single_literals(clauses)
    made = []
    for part, _ in reversed(parts_with_depths(paper)):
        if part[0] == "ring":
            needs = {literal: True for literal in part[1] if literal not in single}
            made.append(Trimmed(part, needs, False))
        else:
            count = len(part[2])
            parts = [made.pop() for _ in range(count)]
            made.append(trimmed_cases(part, clauses[part[1]], parts))
    return made[0].paper
