"""Why a term has its value in a world: the facts at which one looks, and those that are enough."""

from diesnon.cores import all_sets, is_part, least_of
from diesnon.errors import NotAllowed
from diesnon.facts import (
    check_facts, check_numbers, check_picture, fact_conditions, facts_of, look_at, other_world,
)
from diesnon.meaning import check_names, value
from diesnon.plain import conjunction
from diesnon.stretches import is_open
from diesnon.worlds import calendar_of, day_of, flag_of, keeps_rules

MAX_FACTS = 40
MAX_CHOSEN = 6


def agrees(world, fact):
    """True if the world agrees with the fact."""
    word, name, told = fact
    if word == "day":
        return day_of(world, name) == told
    if word == "flag":
        return flag_of(world, name) == told
    return is_open(calendar_of(world, name), told) == (word == "open")


def condition_of(fact):
    """A condition that holds in a world exactly if it agrees with the fact."""
    check_facts([fact])
    return conjunction(fact_conditions(fact))


def looked_at(world, term, most):
    """The facts at which one looks to find the value of a term; the world has all its names."""
    look = look_at(world, term)
    check_numbers([look.told])
    return facts_of(world, look.seen, most)


def looks(world, term):
    """The set of the facts at which one looks to find the value of the term."""
    check_names(world, term)
    return looked_at(world, term, MAX_FACTS)


def worth_in(rules, world, term, facts):
    """The value of the term in the world, which keeps the rules and agrees with the facts."""
    worth = value(world, term)
    kept = keeps_rules(world, rules)
    agreed = [agrees(world, fact) for fact in facts]
    if not kept or not all(agreed):
        raise NotAllowed("the world does not keep the rules, or does not agree with a fact")
    check_numbers([worth])
    check_facts(facts)
    check_picture(rules, term, worth, facts)
    return worth


def explains(rules, world, term, facts):
    """True if the set of facts explains the value of the term in the world."""
    worth = worth_in(rules, world, term, facts)
    return other_world(rules, term, worth, facts, facts) is None


def without(facts, fact):
    """The set of facts without one of them."""
    return tuple([other for other in facts if other != fact])


def reason(rules, world, term):
    """A reason for the value of the term in the world."""
    worth = worth_in(rules, world, term, ())
    facts = looked_at(world, term, MAX_FACTS)
    kept = facts
    for fact in facts:
        fewer = without(kept, fact)
        if other_world(rules, term, worth, fewer, fewer) is None:
            kept = fewer
    check_picture(rules, term, worth, kept)
    return kept


def all_reasons(rules, world, term):
    """All reasons for the value of the term in the world."""
    worth = worth_in(rules, world, term, ())
    facts = looked_at(world, term, MAX_CHOSEN)
    sets = all_sets(len(facts))
    enough = {}
    for chosen in sets:
        if chosen in enough:
            continue
        other = other_world(rules, term, worth, tuple([facts[k] for k in chosen]), facts)
        if other is None:
            enough.update({larger: True for larger in sets if is_part(chosen, larger)})
        else:
            agreed = [k for k, fact in enumerate(facts) if agrees(other, fact)]
            enough.update({smaller: False for smaller in sets if is_part(smaller, agreed)})
    check_picture(rules, term, worth, facts)
    found = least_of([chosen for chosen in sets if enough[chosen]])
    return tuple([tuple([facts[k] for k in chosen]) for chosen in found])


def parted(rules, world, term, facts):
    """For each fact of the set a world that parts it, None if there is none."""
    worth = worth_in(rules, world, term, facts)
    return [other_world(rules, term, worth, without(facts, fact), facts) for fact in facts]
