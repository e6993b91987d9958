"""Decides questions, by a world that answers them or by a paper, and checks such papers."""

from diesnon.clauses import clauses_of
from diesnon.errors import Never, TooLarge
from diesnon.papers import MAX_CLAUSES, is_accepted
from diesnon.points import all_points, question_conditions
from diesnon.realize import world_of_values
from diesnon.search import solved
from diesnon.terms import folded, rebuilt


def picture(rules, conditions, terms, most):
    """The points of a picture and the list of its clauses, of which there may be so many at most."""
    made = all_points(rules, conditions, terms)
    rows = clauses_of(rules, conditions, made)
    if len(rows) > most:
        raise TooLarge("the picture has too many clauses")
    return made, list(rows)


def question_picture(question):
    """The points and the list of the clauses of a question."""
    return picture(question[0], question_conditions(question), [], MAX_CLAUSES)


def decide_picture(rules, made, rows):
    """A world of values that satisfy the clauses of a picture, or a paper that there are none."""
    word, told = solved(len(made), rows)
    if word == "values":
        return "world", world_of_values(rules, made, told)
    return "paper", told


def decide(question):
    """A world that answers the question, or a paper that shows that there is none."""
    made, rows = question_picture(question)
    return decide_picture(question[0], made, rows)


def check(question, paper):
    """True if the paper is accepted for the clauses of the question."""
    _, rows = question_picture(question)
    return is_accepted(rows, paper)


def opposite(question):
    """The question with the opposite claim."""
    rules, assumptions, claim = question
    return rules, assumptions, ("not", claim)


def keeping(question):
    """A world that keeps the question, with the names of the claim, too."""
    for asked in (question, opposite(question)):
        word, told = decide(asked)
        if word == "world":
            return told
    raise Never("no world keeps the question")


def verdict(question):
    """Whether the claim holds in none, in all or in some of the worlds, or there are no worlds."""
    fails = decide(question)[0] == "world"
    holds = decide(opposite(question))[0] == "world"
    if fails:
        return "open" if holds else "never"
    return "always" if holds else "none"


def decide_all(rules, assumptions, claims):
    """The list of what `decide` tells of each of the claims."""
    return [decide((rules, assumptions, claim)) for claim in claims]


def mirrored(part, parts):
    """The mirror of a node whose parts have these mirrors."""
    word = part[0]
    if word == "at":
        return "at", -part[1]
    if word == "plus":
        return "plus", parts[0], -part[2]
    if word == "nth":
        return "nth", part[1], parts[0], -part[3]
    if word == "le":
        return "le", parts[1], parts[0]
    made = rebuilt(part, parts)
    swapped = {"next": "prev", "prev": "next", "later": "earlier", "earlier": "later"}
    return (swapped.get(word, word), *made[1:])


def mirror_known(known):
    """The mirror of the known days of a calendar rule."""
    if not known:
        return ()
    first, last, closed = known
    return -last, -first, tuple([(-b, -a) for a, b in reversed(closed)])


def mirror(question):
    """The mirror of the question, in which time is turned around."""
    rules, assumptions, claim = question
    turned = tuple([(name, run, within, mirror_known(known)) for name, run, within, known in rules])
    conditions = tuple([folded(condition, mirrored) for condition in assumptions])
    return turned, conditions, folded(claim, mirrored)
