"""Ratios from 0 on, ratios within stretches, and the ends of stretches."""
from stillarms.ratios import compare, is_ratio
from stillarms.rows import is_row


def is_from_zero(thing):
    return is_ratio(thing) and thing[0] >= 0


def are_ratios(thing, least, most):
    """Whether a thing is a row of `least` to `most` ratios."""
    return is_row(thing, least, most) and all([is_ratio(entry) for entry in thing])


def is_upward(low, high):
    """Whether two things are ratios, the low not above the high."""
    return is_ratio(low) and is_ratio(high) and compare(low, high) <= 0


def is_within(thing, low, high):
    return is_ratio(thing) and compare(low, thing) <= 0 and compare(thing, high) <= 0


def first_outside(numbers, stretches):
    """The least index at which a row of one ratio within each stretch is wrong, or None."""
    if not is_row(numbers):
        return 0
    for index, number in enumerate(numbers):
        if index >= len(stretches):
            return index
        low, high = stretches[index]
        if not is_within(number, low, high):
            return index
    return None if len(numbers) == len(stretches) else len(numbers)


def corners_of(stretches):
    """All rows that take the low or the high of each stretch, low first; the last entry changes fastest."""
    rows = [()]
    for low, high in stretches:
        ends = (low,) if low == high else (low, high)
        rows = [row + (end,) for row in rows for end in ends]
    return rows
