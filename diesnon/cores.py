"""Which assumptions of a question its claim needs."""

from diesnon.clauses import clauses_of
from diesnon.decide import decide, question_picture
from diesnon.errors import NotAllowed, TooLarge
from diesnon.literals import literal_holds
from diesnon.papers import clauses_used
from diesnon.points import literal_for
from diesnon.search import solved

MAX_CHOICES = 6


def all_sets(count):
    """All sets of indexes below the number, in order."""
    sets = [()]
    for k in range(count):
        sets = sets + [(*chosen, k) for chosen in sets]
    return sorted(sets, key=lambda chosen: (len(chosen), chosen))


def is_part(few, many):
    """True if each index of the first set is in the second one."""
    return all([k in many for k in few])


def least_of(sets):
    """Those of the sets, of which each larger set is one, too, that have no proper part among them."""
    return tuple([chosen for chosen in sets
                  if not any([chosen[:at] + chosen[at + 1:] in sets for at in range(len(chosen))])])


def suffices(question, chosen):
    """True if the claim holds in all worlds in which the chosen assumptions hold."""
    rules, assumptions, claim = question
    if list(chosen) != sorted(set(chosen)) or not all([0 <= k < len(assumptions) for k in chosen]):
        raise NotAllowed("this is not a set of indexes of assumptions")
    return decide((rules, tuple([assumptions[k] for k in chosen]), claim))[0] == "paper"


def settled_by(rows, literals, n, chosen):
    """Whether the chosen literals suffice, and a set that tells it of all that it is a part of.

    If they do not suffice, it tells it of all its parts.
    """
    word, told = solved(n, [*rows, *[(literals[k],) for k in chosen]])
    if word == "paper":
        used = clauses_used([*rows, *[(literals[k],) for k in chosen]], told)
        return True, tuple([k for at, k in enumerate(chosen) if len(rows) + at in used])
    return False, tuple([k for k, literal in enumerate(literals) if literal_holds(literal, told)])


def sufficing_sets(question):
    """The list of all sets of assumptions that suffice, in order."""
    rules, assumptions, claim = question
    if len(assumptions) > MAX_CHOICES:
        raise TooLarge("there are too many assumptions")
    made, _ = question_picture(question)
    rows = clauses_of(rules, [("not", claim)], made)
    literals = [literal_for(made, condition) for condition in assumptions]
    sets = all_sets(len(assumptions))
    told = {}
    for chosen in sets:
        if chosen not in told:
            enough, limit = settled_by(rows, literals, len(made), chosen)
            for other in sets:
                if is_part(limit, other) if enough else is_part(other, limit):
                    told[other] = enough
    return [chosen for chosen in sets if told[chosen]]


def least_sets(question):
    """All least sets of assumptions that suffice."""
    return least_of(sufficing_sets(question))


def meeting_sets(sets):
    """All least sets that have an index in common with each of the sets."""
    return least_of([chosen for chosen in all_sets(MAX_CHOICES)
                     if all([any([k in chosen for k in other]) for other in sets])])


def breaking_sets(question):
    """All least breaking sets of assumptions."""
    return meeting_sets(least_sets(question))
