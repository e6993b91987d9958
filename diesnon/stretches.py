"""Closed days of a calendar: stretches in ascending order with open days between them.

Stretches may be too long to go through their days, so all functions reckon with their ends.
"""

from diesnon.errors import NotAllowed
from diesnon.kinds import is_integer


def is_closed_days(pairs):
    """True if a tuple of pairs is closed days in their one form."""
    for first, last in pairs:
        if not (is_integer(first) and is_integer(last) and first <= last):
            return False
    for at in range(1, len(pairs)):
        if pairs[at][0] < pairs[at - 1][1] + 2:
            return False
    return True


def check_order(first, last):
    """Raises NotAllowed if the first day is behind the last one."""
    if first > last:
        raise NotAllowed("the first day is behind the last one")


def closed_days(pairs):
    """The closed days of all days of the pairs of a list, in any order."""
    for first, last in pairs:
        check_order(first, last)
    joined = []
    for first, last in sorted(pairs):
        if joined and first <= joined[-1][1] + 1:
            joined[-1] = (joined[-1][0], max(joined[-1][1], last))
        else:
            joined.append((first, last))
    return tuple(joined)


def place_of(closed, day):
    """The index of the first stretch that does not end before the day."""
    low, high = 0, len(closed)
    while low < high:
        middle = (low + high) // 2
        if closed[middle][1] < day:
            low = middle + 1
        else:
            high = middle
    return low


def stretch_at(closed, day):
    """The stretch that contains the day, None if the day is open."""
    at = place_of(closed, day)
    if at < len(closed) and closed[at][0] <= day:
        return closed[at]
    return None


def is_open(closed, day):
    """True if the day is open."""
    return stretch_at(closed, day) is None


def next_open(closed, day):
    """The least open day that is at least the day."""
    stretch = stretch_at(closed, day)
    return day if stretch is None else stretch[1] + 1


def prev_open(closed, day):
    """The greatest open day that is at most the day."""
    stretch = stretch_at(closed, day)
    return day if stretch is None else stretch[0] - 1


def open_behind(closed, day, n):
    """The n-th open day behind the day; n is above 0."""
    found = day + n
    for at in range(place_of(closed, day + 1), len(closed)):
        first = max(closed[at][0], day + 1)
        if first > found:
            return found
        found += closed[at][1] - first + 1
    return found


def open_before(closed, day, n):
    """The n-th open day before the day; n is above 0."""
    found = day - n
    begin = min(place_of(closed, day), len(closed) - 1)
    for at in range(begin, -1, -1):
        last = min(closed[at][1], day - 1)
        if last < found:
            return found
        found -= max(0, last - closed[at][0] + 1)
    return found


def nth_open(closed, day, n):
    """The n-th open day behind the day, or the (-n)-th one before it."""
    if n == 0:
        raise NotAllowed("there is no open day with the number 0")
    if n > 0:
        return open_behind(closed, day, n)
    return open_before(closed, day, -n)


def count_open(closed, first, behind):
    """The number of open days from the first day on that are before the day behind."""
    if behind <= first:
        return 0
    inner = cut(closed, first, behind - 1)
    return behind - first - sum([end - begin + 1 for begin, end in inner])


def shut(closed, first, last):
    """The closed days together with the days from first to last."""
    return closed_days([*closed, (first, last)])


def free(closed, first, last):
    """The closed days without the days from first to last."""
    check_order(first, last)
    kept = []
    for begin, end in closed:
        if begin < first:
            kept.append((begin, min(end, first - 1)))
        if end > last:
            kept.append((max(begin, last + 1), end))
    return tuple(kept)


def cut(closed, first, last):
    """The closed days among the days from first to last."""
    check_order(first, last)
    return tuple([(max(begin, first), min(end, last))
                  for begin, end in closed if begin <= last and end >= first])


def longest(closed):
    """The greatest length of a run, 0 if there is none."""
    return max([last - first + 1 for first, last in closed], default=0)


def both(first_closed, second_closed):
    """The closed days of the calendar that is open where both are."""
    return closed_days([*first_closed, *second_closed])


def either(first_closed, second_closed):
    """The closed days of the calendar that is open where one of them is."""
    common = []
    one = two = 0
    while one < len(first_closed) and two < len(second_closed):
        first = max(first_closed[one][0], second_closed[two][0])
        last = min(first_closed[one][1], second_closed[two][1])
        if first <= last:
            common.append((first, last))
        if first_closed[one][1] < second_closed[two][1]:
            one += 1
        else:
            two += 1
    return tuple(common)


def inside(first_closed, second_closed):
    """True if each day that is closed in the second calendar is closed in the first one."""
    return either(first_closed, second_closed) == second_closed
