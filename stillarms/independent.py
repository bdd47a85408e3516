"""Rows of ratios that are independent of one another."""
from stillarms.arms import scale_row, take_row
from stillarms.ratios import ZERO, over


def independent_among(rows):
    """The indices of those rows that are no sum of multiples of the rows before them."""
    found = []
    kept = []
    for index, row in enumerate(rows):
        for at, other in kept:
            row = take_row(row, scale_row(other, over(row[at], other[at])))
        first = _first_other(row)
        if first is not None:
            found.append(index)
            kept.append((first, row))
    return tuple(found)


def _first_other(row):
    """The first index at which a row is not 0, or None."""
    for index, number in enumerate(row):
        if number != ZERO:
            return index
    return None
