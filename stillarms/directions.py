"""Spots, directions and the halves by which directions turn."""
from math import isqrt

from stillarms.errors import BadDirection, BadHalf, BadQuarters, BadSpot
from stillarms.ratios import ONE, ZERO, is_ratio, is_whole, lowest_terms, minus, negative, over, plus, times
from stillarms.rows import is_row

UP = ((0, 1), (1, 1))
LEFT = ((-1, 1), (0, 1))
DOWN = ((0, 1), (-1, 1))
RIGHT = ((1, 1), (0, 1))
END = None


def is_spot(thing):
    return is_row(thing, 2, 2) and is_ratio(thing[0]) and is_ratio(thing[1])


def check_spot(spot):
    if not is_spot(spot):
        raise BadSpot()
    return tuple(spot)


def is_direction(thing):
    return is_spot(thing) and dot_of(thing, thing) == ONE


def check_direction(direction):
    if not is_direction(direction):
        raise BadDirection()
    return tuple(direction)


def dot_of(one, other):
    """x1 x2 + y1 y2 of two spots."""
    return plus(times(one[0], other[0]), times(one[1], other[1]))


def cross_of(one, other):
    """x1 y2 - y1 x2 of two spots."""
    return minus(times(one[0], other[1]), times(one[1], other[0]))


def root_of(ratio):
    top, bottom = ratio
    if top < 0:
        return None
    root = (isqrt(top), isqrt(bottom))
    return root if times(root, root) == ratio else None


def is_half(thing):
    return thing is None or is_ratio(thing)


def check_half(half):
    """Raises BadHalf unless this is a half."""
    if not is_half(half):
        raise BadHalf()


def direction_by(half):
    check_half(half)
    if half is None:
        return DOWN
    top, bottom = half
    whole = bottom * bottom + top * top
    return (lowest_terms(-2 * top * bottom, whole), lowest_terms(bottom * bottom - top * top, whole))


def half_of(direction):
    x, y = check_direction(direction)
    if (x, y) == DOWN:
        return END
    return over(negative(x), plus(ONE, y))


def add_halves(one, other):
    check_half(one)
    check_half(other)
    if one is None and other is None:
        return ZERO
    if one is None or other is None:
        return _add_end(other if one is None else one)
    rest = minus(ONE, times(one, other))
    return END if rest == ZERO else over(plus(one, other), rest)


def _add_end(half):
    return END if half == ZERO else over((-1, 1), half)


def turned_by(direction, half):
    direction = check_direction(direction)
    return turned_as(direction, direction_by(half))


def turned_as(direction, turn):
    """The direction turned to the left as up is turned to get the second direction."""
    sine, cosine = mirrored_direction(turn)
    return (cross_of(direction, (sine, cosine)), dot_of(direction, (sine, cosine)))


def turned_quarters(direction, quarters):
    x, y = check_direction(direction)
    if not is_whole(quarters):
        raise BadQuarters()
    for _ in range(quarters % 4):
        x, y = negative(y), x
    return (x, y)


def quarter_direction(quarters):
    return turned_quarters(UP, quarters)


def opposite_of(direction):
    x, y = check_direction(direction)
    return (negative(x), negative(y))


def mirrored_direction(direction):
    x, y = check_direction(direction)
    return (negative(x), y)


def cosine_between(one, other):
    return dot_of(check_direction(one), check_direction(other))


def sine_between(one, other):
    return cross_of(check_direction(one), check_direction(other))
