"""Worlds: tuples of calendars, days and flags, each with pairs in ascending order of names."""

from diesnon.errors import Missing, NotAllowed
from diesnon.kinds import is_integer
from diesnon.stretches import cut, inside, is_closed_days, longest
from diesnon.terms import is_name


def check_names(names):
    """Raises NotAllowed if one of the texts of a list is not a name."""
    for name in names:
        if not is_name(name):
            raise NotAllowed("this is not a name")


def pairs_of(table):
    """The pairs of a dict in ascending order of its names."""
    return tuple([(name, table[name]) for name in sorted(table)])


def make_world(calendars, days, flags):
    """The world for three dicts, from names to closed days, to integers, to True or False."""
    check_names([*calendars, *days, *flags])
    for closed in calendars.values():
        if not is_closed_days(closed):
            raise NotAllowed("these are not closed days")
    return pairs_of(calendars), pairs_of(days), pairs_of(flags)


def are_named(pairs):
    """True if the first elements are names in ascending order, none of them twice."""
    names = [pair[0] for pair in pairs]
    return all([is_name(name) for name in names]) and names == sorted(set(names))


def is_world(world):
    """True if a tuple of three tuples of pairs is a world."""
    calendars, days, flags = world
    if not (are_named(calendars) and are_named(days) and are_named(flags)):
        return False
    return (all([is_closed_days(pair[1]) for pair in calendars])
            and all([is_integer(pair[1]) for pair in days])
            and all([isinstance(pair[1], bool) for pair in flags]))


def found_in(pairs, name):
    """What is paired with the name."""
    for other, told in pairs:
        if other == name:
            return told
    raise Missing(name)


def calendar_of(world, name):
    """The closed days of the calendar with this name."""
    return found_in(world[0], name)


def day_of(world, name):
    """The day with this name."""
    return found_in(world[1], name)


def flag_of(world, name):
    """The flag with this name, True or False."""
    return found_in(world[2], name)


def with_pair(pairs, name, told):
    """The pairs with a new one, in the place of the one with its name if there is one."""
    check_names([name])
    others = [pair for pair in pairs if pair[0] != name]
    return tuple(sorted([*others, (name, told)]))


def set_calendar(world, name, closed):
    """The world with these closed days as the calendar with this name."""
    return with_pair(world[0], name, closed), world[1], world[2]


def set_day(world, name, day):
    """The world with this day under this name."""
    return world[0], with_pair(world[1], name, day), world[2]


def set_flag(world, name, flag):
    """The world with this flag under this name."""
    return world[0], world[1], with_pair(world[2], name, flag)


def keeps_rule(world, rule):
    """True if the calendar rule is kept in the world."""
    name, run, within, known = rule
    closed = calendar_of(world, name)
    if within != "" and not inside(closed, calendar_of(world, within)):
        return False
    if run > 0 and longest(closed) > run:
        return False
    return known == () or cut(closed, known[0], known[1]) == known[2]


def keeps_rules(world, rules):
    """True if all rules of a tuple are kept; what a later rule lacks is missing all the same."""
    return all([keeps_rule(world, rule) for rule in rules])
