"""Orders of two terms, and how far assumptions and bounds on runs can be changed."""

from diesnon.decide import decide, question_picture
from diesnon.errors import Missing, Never, NotAllowed
from diesnon.extremes import at_least, least, term_picture
from diesnon.papers import rings_of
from diesnon.points import point_of
from diesnon.realize import world_of_values
from diesnon.search import solved
from diesnon.stretches import longest
from diesnon.worlds import calendar_of


def farther(rules, assumptions, t, u, n):
    """A world whose difference of t and u is at least n."""
    made, rows = term_picture(rules, assumptions, [t, u])
    word, told = solved(len(made), [*rows, at_least(point_of(made, t), point_of(made, u), n)])
    if word == "paper":
        raise Never("there is no such world")
    return world_of_values(rules, made, told)


def orders(rules, assumptions, t, u):
    """Those of "before", "same" and "behind" that t is to u in some of the worlds."""
    made, rows = term_picture(rules, assumptions, [t, u])
    i, j = point_of(made, t), point_of(made, u)
    asked = (
        ("before", [at_least(j, i, 1)]),
        ("same", [at_least(i, j, 0), at_least(j, i, 0)]),
        ("behind", [at_least(i, j, 1)]),
    )
    return tuple([word for word, more in asked if solved(len(made), [*rows, *more])[0] == "values"])


def tolerance(rules, assumptions, k, claim):
    """How far the assumption with the index k can be loosened so that the claim holds."""
    if not 0 <= k < len(assumptions) or assumptions[k][0] != "le":
        raise NotAllowed("there is no such assumption that can be loosened")
    _, a, b = assumptions[k]
    bad = (*assumptions[:k], *assumptions[k + 1:], ("not", claim))
    try:
        told = least(rules, bad, a, b)
    except Never:
        return ("spare",)
    if told[0] == "endless":
        return ("none",)
    return "most", told[1] - 1, told[2]


def with_run(question, name, run):
    """The question in which the rule with the name has this run."""
    rules, assumptions, claim = question
    if name not in [rule[0] for rule in rules]:
        raise Missing(name)
    changed = [(rule[0], run, rule[2], rule[3]) if rule[0] == name else rule for rule in rules]
    return tuple(changed), assumptions, claim


def ring_room(ring, made, name, run):
    """By how much the run has to grow so that the ring is none, None if it does not matter.

    The run stands in the literals that bound the runs of the calendar: no other ones have such
    points and, as their number is above 1, this number.
    """
    count = 0
    for a, b, c in ring:
        bounds = c == run + 1 and made[a][0] == "next" and made[b][0] == "prev"
        if bounds and made[a][1] == name and made[b][1] == name:
            count += 1
    total = sum([literal[2] for literal in ring])
    return None if count == 0 else (count - 1 - total) // count


def next_run(made, paper, name, run):
    """A greater run up to which the paper, with the run in its place, is accepted for each one."""
    rooms = [ring_room(ring, made, name, run) for ring in rings_of(paper)]
    return run + min([room for room in rooms if room is not None])


def critical_run(question, name):
    """The least run of the rule with the name for which some world answers the question."""
    word, world = decide(with_run(question, name, 0))
    if word == "paper":
        return ("always",)
    low, run = 1, 1
    high = max(1, longest(calendar_of(world, name)))
    halve = False
    while True:
        asked = with_run(question, name, run)
        word, told = decide(asked)
        if word == "world":
            high, world = run, told
        else:
            low = next_run(question_picture(asked)[0], told, name, run)
        if low >= high:
            return "from", high, world
        # Halving besides keeps the number of rounds small if the papers tell little.
        halve = not halve
        run = (low + high) // 2 if halve else low
