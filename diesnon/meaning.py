"""What terms, conditions and questions mean in a world."""

from diesnon.stretches import is_open, next_open, nth_open, prev_open
from diesnon.terms import folded, names_of
from diesnon.worlds import calendar_of, day_of, flag_of, keeps_rules


def check_names(world, node):
    """Raises Missing for the first name of the node that the world lacks."""
    days, calendars, flags = names_of(node)
    for name in days:
        day_of(world, name)
    for name in calendars:
        calendar_of(world, name)
    for name in flags:
        flag_of(world, name)


def term_told(world, term, told):
    """The value of a term whose parts mean what is told, in order."""
    word = term[0]
    if word == "day":
        return day_of(world, term[1])
    if word == "at":
        return term[1]
    if word == "plus":
        return told[0] + term[2]
    if word == "later":
        return max(told[0], told[1])
    if word == "earlier":
        return min(told[0], told[1])
    if word == "if":
        return told[1] if told[0] else told[2]
    closed = calendar_of(world, term[1])
    if word == "next":
        return next_open(closed, told[0])
    if word == "prev":
        return prev_open(closed, told[0])
    return nth_open(closed, told[0], term[3])


def condition_told(world, condition, told):
    """Whether a condition holds whose parts mean what is told, in order."""
    word = condition[0]
    if word == "le":
        return told[0] <= told[1]
    if word == "is":
        return is_open(calendar_of(world, condition[1]), told[0])
    if word == "flag":
        return flag_of(world, condition[1])
    if word == "not":
        return not told[0]
    if word == "and":
        return told[0] and told[1]
    if word == "or":
        return told[0] or told[1]
    return True


def part_told(world, part, told):
    """The value of a term, or whether a condition holds, whose parts mean what is told, in order."""
    if part[0] in ("le", "is", "flag", "yes", "not", "and", "or"):
        return condition_told(world, part, told)
    return term_told(world, part, told)


def meaning_of(world, node):
    """The value of a term, or whether a condition holds."""
    return folded(node, lambda part, told: part_told(world, part, told))


def value(world, term):
    """The value of the term in the world."""
    check_names(world, term)
    return meaning_of(world, term)


def holds(world, condition):
    """True if the condition holds in the world."""
    check_names(world, condition)
    return meaning_of(world, condition)


def check_question_names(world, question):
    """Raises Missing for the first name of the rules and assumptions that the world lacks."""
    rules, assumptions, _ = question
    for name in sorted([rule[0] for rule in rules]):
        calendar_of(world, name)
    for condition in assumptions:
        check_names(world, condition)


def keeps_all(world, question):
    """True if the world, which has all names, keeps the question."""
    rules, assumptions, _ = question
    return keeps_rules(world, rules) and all([meaning_of(world, part) for part in assumptions])


def keeps(world, question):
    """True if the world keeps the question."""
    check_question_names(world, question)
    return keeps_all(world, question)


def answers(world, question):
    """True if the world keeps the question and its claim does not hold."""
    check_question_names(world, question)
    check_names(world, question[2])
    return keeps_all(world, question) and not meaning_of(world, question[2])
