"""The least and greatest strengths of the spans of a pool over all rows that still a rig."""
from stillarms.pools import NoStrengths, check_pool, span_columns, still_target, stills
from stillarms.ratios import ONE, ZERO, negative
from stillarms.rigs import check_number
from stillarms.tasks import Endless, least_cost


def strength_ends(rig, pool, number):
    pool = check_pool(rig.arms, pool)
    check_number(number, pool)
    told = stills(rig, pool)
    return told if isinstance(told, NoStrengths) else _ends_of(rig, pool, number)


def _ends_of(rig, pool, number):
    """The ends of the strength of a span, for a pool that stills the rig."""
    columns = span_columns(rig.arms, pool)
    costs = [ONE if other == number else ZERO for other in range(len(pool))]
    least = least_cost(columns, still_target(rig), costs)
    # The greatest strength is the least cost, with its sign changed, of the opposite costs.
    greatest = least_cost(columns, still_target(rig), [negative(cost) for cost in costs])
    return Ends(least.value, None if isinstance(greatest, Endless) else negative(greatest.value))


def _all_ends(rig, pool):
    """The ends of all spans in order, or None if no row stills the rig."""
    pool = check_pool(rig.arms, pool)
    if isinstance(stills(rig, pool), NoStrengths):
        return None
    return [_ends_of(rig, pool, number) for number in range(len(pool))]


def needed_springs(rig, pool):
    rows = _all_ends(rig, pool)
    if rows is None:
        return None
    return tuple([number for number, ends in enumerate(rows) if ends.least != ZERO])


def usable_springs(rig, pool):
    rows = _all_ends(rig, pool)
    if rows is None:
        return None
    return tuple([number for number, ends in enumerate(rows) if ends.greatest != ZERO])


def only_strengths(rig, pool):
    rows = _all_ends(rig, pool)
    if rows is None or any([ends.least != ends.greatest for ends in rows]):
        return None
    return tuple([ends.least for ends in rows])


class Ends:
    """The least strength and the greatest one, None if it has no end."""

    def __init__(self, least, greatest):
        self.least = least
        self.greatest = greatest

    def __eq__(self, other):
        return isinstance(other, Ends) and self.least == other.least and self.greatest == other.greatest
