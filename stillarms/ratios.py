"""Ratios: exact fractions, each a tuple of a top and a bottom in lowest terms."""
from math import gcd

from stillarms.errors import BadRatio

ZERO = (0, 1)
ONE = (1, 1)
HALF = (1, 2)
MOST_DIGITS = 300


def is_whole(thing, low=None, high=None):
    if not isinstance(thing, int) or isinstance(thing, bool):
        return False
    return (low is None or thing >= low) and (high is None or thing <= high)


def is_ratio(thing):
    if not isinstance(thing, tuple) or len(thing) != 2:
        return False
    top, bottom = thing
    return is_whole(top) and is_whole(bottom, 1) and gcd(top, bottom) == 1


def is_positive(thing):
    return is_ratio(thing) and thing[0] > 0


def make_ratio(top, bottom=1):
    if not is_whole(top):
        raise BadRatio("top")
    if not is_whole(bottom) or bottom == 0:
        raise BadRatio("bottom")
    return lowest_terms(top, bottom)


def lowest_terms(top, bottom):
    """The ratio of two whole numbers; the bottom is not 0."""
    part = gcd(top, bottom)
    if bottom < 0:
        part = -part
    return (top // part, bottom // part)


def plus(one, other):
    return lowest_terms(one[0] * other[1] + other[0] * one[1], one[1] * other[1])


def minus(one, other):
    return lowest_terms(one[0] * other[1] - other[0] * one[1], one[1] * other[1])


def times(one, other):
    return lowest_terms(one[0] * other[0], one[1] * other[1])


def over(one, other):
    if other == ZERO:
        raise BadRatio("zero")
    return lowest_terms(one[0] * other[1], one[1] * other[0])


def negative(one):
    return (-one[0], one[1])


def size_of(one):
    return (abs(one[0]), one[1])


def compare(one, other):
    left = one[0] * other[1]
    right = other[0] * one[1]
    if left < right:
        return -1
    return 1 if left > right else 0


def sum_of(row):
    total = ZERO
    for entry in row:
        total = plus(total, entry)
    return total


def product_of(one, other):
    """The sum of the products of the entries of two rows."""
    return sum_of([times(left, right) for left, right in zip(one, other)])


def least_of(row):
    least = row[0]
    for entry in row:
        if compare(entry, least) < 0:
            least = entry
    return least


def greatest_of(row):
    greatest = row[0]
    for entry in row:
        if compare(entry, greatest) > 0:
            greatest = entry
    return greatest


def whole_text(number):
    """The digits, part by part: Python writes no number of some thousands of digits at once."""
    rest = abs(number)
    parts = []
    while rest >= 10 ** 64:
        rest, part = divmod(rest, 10 ** 64)
        parts.append(str(part).zfill(64))
    parts.append(str(rest))
    if number < 0:
        parts.append("-")
    return "".join(parts[::-1])


def ratio_text(one):
    top, bottom = one
    if bottom == 1:
        return whole_text(top)
    return whole_text(top) + "/" + whole_text(bottom)


def are_digits(text):
    return text.isascii() and text.isdigit() and len(text) <= MOST_DIGITS


def ratio_of(text):
    if not isinstance(text, str):
        raise BadRatio("text")
    top, slash, bottom = text.partition("/")
    if slash == "":
        bottom = "1"
    if not are_digits(top.removeprefix("-")) or not are_digits(bottom):
        raise BadRatio("text")
    ratio = (int(top), int(bottom))
    # Writing it again finds what int overlooks: needless zeros, "-0", "3/1".
    if not is_ratio(ratio) or ratio_text(ratio) != text:
        raise BadRatio("text")
    return ratio
