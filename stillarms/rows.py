"""What is asked of rows of any things, rows of choices, and lots."""
from itertools import combinations

from stillarms.ratios import is_whole


def is_row(thing, least=0, most=None):
    """Whether a thing is a list or tuple of `least` to `most` entries."""
    if not isinstance(thing, (list, tuple)):
        return False
    return len(thing) >= least and (most is None or len(thing) <= most)


def is_worded(thing):
    """Whether a thing is a row that begins with a text."""
    return is_row(thing, 1) and isinstance(thing[0], str)


def first_wrong(thing, many, is_right):
    """The least index at which a row of so many right entries is wrong, or None."""
    if not is_row(thing):
        return 0
    for index, entry in enumerate(thing):
        if index >= many or not is_right(entry):
            return index
    return None if len(thing) == many else len(thing)


def is_lot(thing, low, high):
    """Whether a thing is an ascending row of whole numbers from low to high."""
    if not is_row(thing):
        return False
    last = low - 1
    for entry in thing:
        if not is_whole(entry, last + 1, high):
            return False
        last = entry
    return True


def rows_among(many, choices):
    """All rows of so many choices; the last entry changes fastest."""
    rows = [()]
    for _ in range(many):
        rows = [row + (choice,) for row in rows for choice in choices]
    return rows


def lots_among(many, most):
    """All lots of at most `most` of the numbers below `many`, in order."""
    lots = []
    for size in range(min(many, most) + 1):
        for lot in combinations(range(many), size):
            lots.append(lot)
    return lots


def is_part(part, lot):
    return all([number in lot for number in part])


def couples_of(row):
    """All couples of entries of a row, in order."""
    return [(one, other) for index, one in enumerate(row) for other in row[index + 1:]]
