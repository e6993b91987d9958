"""Problems, made by a seeded random source, and their solutions, found by trying all values."""

import itertools


def some_literal(dice, n, width):
    return (dice.randrange(n), dice.randrange(n), dice.randint(-width, width))


def some_clauses(dice, n, count, width, lengths=(1, 2, 2, 3)):
    return [tuple(some_literal(dice, n, width) for _ in range(dice.choice(lengths))) for _ in range(count)]


def planted_clauses(dice, n, count, width, lengths=(1, 2, 3), slack=6):
    """Clauses that some values solve."""
    values = [0] + [dice.randint(-width, width) for _ in range(n - 1)]
    rows = []
    for _ in range(count):
        clause = [some_literal(dice, n, width) for _ in range(dice.choice(lengths) - 1)]
        a, b = dice.randrange(n), dice.randrange(n)
        clause.insert(dice.randint(0, len(clause)), (a, b, values[a] - values[b] + dice.randint(0, slack)))
        rows.append(tuple(clause))
    return rows


def ring_clauses(dice, points, others):
    """Clauses that no values solve: a ring through the points, and cases that are all refuted.

    `others` are points of their own, of which the cases speak that do not matter.
    """
    rows = []
    for a, b in zip(points, points[1:] + points[:1]):
        rows.append(((a, b, 3),) if dice.random() < 0.5 else ((a, b, 2), (a, b, 3), (a, b, 1)))
    a, b = points[0], points[-1]
    rows.append(((a, b, -3 * len(points)), (b, a, -3 * len(points) - 4)))
    rows.append(((a, b, 3 * len(points) - 4),))
    rows.append(((b, a, 3 * len(points) - 4),))
    for _ in range(10 * len(others)):
        a, b, c = (dice.choice(others) for _ in range(3))
        rows.append(((a, b, dice.randint(-3, 5)), (b, c, dice.randint(0, 5)), (c, a, dice.randint(0, 5))))
    dice.shuffle(rows)
    return rows


def jobs(lengths, end):
    """Work that is done one after another, from the day 0 on, before the day `end`."""
    rows = []
    for i, own in enumerate(lengths, 1):
        rows += [((0, i, 0),), ((i, 0, end - own),)]
        rows += [((i, j, -own), (j, i, -lengths[j - 1])) for j in range(1, i)]
    return len(lengths) + 1, rows


def satisfied(clause, values):
    return any(values[a] - values[b] <= c for a, b, c in clause)


def has_solution(n, clauses):
    """True if some values solve the clauses; all values of [5.4] are tried."""
    width = (n - 1) * max([abs(c) for clause in clauses for _, _, c in clause], default=0)
    return any(all(satisfied(clause, (0, *rest)) for clause in clauses)
               for rest in itertools.product(range(-width, width + 1), repeat=n - 1))


def staircase(count):
    """A problem of as many clauses, each of which is needed, one within another."""
    rows = [((1, 0, 0),), ((0, 1, count - 3),)]
    return rows + [((0, 1, k - 2), (1, 0, -k)) for k in range(1, count - 1)]


def deep_paper(depth):
    """A paper so deep, for the clauses `((0, 0, -1),)` and `((1, 0, 1), (1, 0, 2))`, both ways."""
    ring = ("ring", ((0, 0, -1),))
    paper = ring
    for _ in range(depth):
        paper = ("cases", 1, (ring, paper))
    return paper
