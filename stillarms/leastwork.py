"""The least and the greatest work over all poses, by blocks of letters that hang together."""
from itertools import combinations

from stillarms.couplings import constant_of, couplings_of, pairs_of, row_couplings
from stillarms.errors import TooMixed
from stillarms.ratios import (HALF, ONE, ZERO, compare, is_ratio, is_whole, minus, negative, over, plus, product_of,
                              size_of, sum_of, times)
from stillarms.rows import couples_of, is_part, is_row, rows_among
from stillarms.squares import Falls, are_squares, split_grid, squares_entry


def blocks_of(couplings):
    found = []
    letters = list(range(couplings.letters + 1))
    for size in range(len(letters), 1, -1):
        for lot in combinations(letters, size):
            if _hangs_fast(couplings, lot) and not any([is_part(lot, block) for block in found]):
                found.append(lot)
    return tuple(sorted(found))


def _hangs_fast(couplings, lot):
    """Whether a lot hangs together by coupled letters, also when any one of its letters is left out."""
    parts = [lot] + [[other for other in lot if other != letter] for letter in lot]
    return all([_hangs_together(couplings, part) for part in parts])


def _hangs_together(couplings, lot):
    reached = [lot[0]]
    for _ in lot:
        for letter in lot:
            if letter not in reached and any([couplings.coupling(letter, other) != ZERO for other in reached]):
                reached.append(letter)
    return len(reached) == len(lot)


def _block_cosines(couplings, block):
    """The cosines of the pairs of a block in a pose of its least value."""
    cosines = _best_flat(couplings, block)
    if not isinstance(split_grid(cosine_grid(couplings, block, cosines)), Falls):
        return cosines
    if len(block) > 3:
        raise TooMixed(block)
    return _bent_cosines(couplings, block)


def _best_flat(couplings, block):
    """The cosines of the first flat choice that has the least value of all flat choices."""
    best = None
    least = None
    for rest in rows_among(len(block) - 1, ((1, 1), (-1, 1))):
        numbers = (ONE,) + rest
        cosines = {}
        for (one, number), (other, its) in couples_of(list(zip(block, numbers))):
            cosines[(one, other)] = times(number, its)
        value = _value_with(couplings, cosines)
        if best is None or compare(value, least) < 0:
            best = cosines
            least = value
    return best


def _value_with(couplings, cosines):
    """The sum of coupling times cosine over these pairs."""
    return sum_of([times(couplings.coupling(one, other), cosines[(one, other)]) for one, other in cosines])


def _bent_cosines(couplings, block):
    i, j, k = block
    first = couplings.coupling(i, j)
    second = couplings.coupling(i, k)
    third = couplings.coupling(j, k)
    x = over(times(first, second), third)
    y = over(times(first, third), second)
    z = over(times(second, third), first)
    return {(i, j): _bent_cosine(z, x, y, first), (i, k): _bent_cosine(y, x, z, second),
            (j, k): _bent_cosine(x, y, z, third)}


def _bent_cosine(far, near, other, coupling):
    return over(minus(far, plus(near, other)), plus(coupling, coupling))


def cosine_grid(couplings, letters, cosines):
    """The grid of couplings of these letters, with minus the sum of coupling times cosine on the diagonal.

    A pose with these cosines has the least value of all exactly if the grid is never below 0.
    """
    rows = []
    for one in letters:
        row = []
        for other in letters:
            row.append(_diagonal_at(couplings, letters, cosines, one) if one == other
                       else couplings.coupling(one, other))
        rows.append(row)
    return rows


def _diagonal_at(couplings, letters, cosines, letter):
    total = ZERO
    for other in letters:
        if other != letter:
            cosine = cosines.get((min(letter, other), max(letter, other)), ZERO)
            total = minus(total, times(couplings.coupling(letter, other), cosine))
    return total


def coupled_pairs(couplings):
    return [pair for pair, number in zip(pairs_of(couplings.letters), couplings.numbers) if number != ZERO]


def lowest_by(couplings, cosines, split):
    """What is told of a pose with these cosines, whose grid is split into squares."""
    rows = [(one, other, cosines[(one, other)]) for one, other in coupled_pairs(couplings)]
    # The grid's squares, taken of both coordinates of a pose, make twice what its value is above the least one.
    squares = [(times(HALF, amount), row) for amount, row in split.squares]
    return Lowest(_value_with(couplings, cosines), tuple(rows), tuple(squares))


def lowest_of(couplings):
    cosines = {}
    for block in blocks_of(couplings):
        found = _block_cosines(couplings, block)
        for pair in found:
            cosines[pair] = found[pair]
    letters = list(range(couplings.letters + 1))
    return lowest_by(couplings, cosines, split_grid(cosine_grid(couplings, letters, cosines)))


def lowest_fault(couplings, lowest):
    return fault_beside(couplings, lowest_of(couplings), lowest)


def fault_beside(couplings, right, lowest):
    """What is wrong with a Lowest that is to tell the same as a right one."""
    if not is_ratio(lowest.value) or lowest.value != right.value:
        return "value"
    if not _are_cosines(lowest.cosines, right.cosines):
        return "cosines"
    return None if _sum_to(couplings, right.value, lowest.squares) else "squares"


def _are_cosines(thing, right):
    if not is_row(thing, len(right), len(right)):
        return False
    for row, good in zip(thing, right):
        if not is_row(row, 3, 3) or not is_whole(row[0]) or not is_whole(row[1]) or not is_ratio(row[2]):
            return False
        if tuple(row) != good:
            return False
    return True


def _sum_to(couplings, value, squares):
    """Whether things are squares whose sum in every pose is the value of the couplings less this value."""
    many = couplings.letters + 1
    if not are_squares(squares, many):
        return False
    if sum_of([squares_entry(squares, letter, letter) for letter in range(many)]) != negative(value):
        return False
    entries = [squares_entry(squares, one, other) for one, other in pairs_of(couplings.letters)]
    return [plus(entry, entry) for entry in entries] == list(couplings.numbers)


def least_value(couplings):
    return lowest_of(couplings).value


def greatest_value(couplings):
    return negative(least_value(couplings.opposite()))


def least_work(rig):
    return plus(constant_of(rig), least_value(couplings_of(rig)))


def greatest_work(rig):
    return plus(constant_of(rig), greatest_value(couplings_of(rig)))


def most_between(rig):
    couplings = couplings_of(rig)
    least = least_value(couplings)
    return minus(greatest_value(couplings), least)


def square_range(arms, one, other, third, fourth):
    constant, couplings = _squares_apart(arms, one, other, third, fourth)
    least = least_value(couplings)
    return (plus(constant, least), plus(constant, greatest_value(couplings)))


def never_farther(arms, one, other, third, fourth):
    constant, couplings = _squares_apart(arms, one, other, third, fourth)
    return plus(constant, greatest_value(couplings))[0] <= 0


def _squares_apart(arms, one, other, third, fourth):
    """The constant and the table of the square of the first two places' distance less that of the other two."""
    row = arms.difference_row(one, other)
    its = arms.difference_row(third, fourth)
    couplings = row_couplings(row).added(row_couplings(its).opposite()).scaled((2, 1))
    return (minus(product_of(row, row), product_of(its, its)), couplings)


class Lowest:
    """The least value of couplings, the cosines of coupled pairs in a pose that has it, and squares that show it."""

    def __init__(self, value, cosines, squares):
        self.value = value
        self.cosines = cosines
        self.squares = squares

    def __eq__(self, other):
        return (isinstance(other, Lowest) and self.value == other.value
                and self.cosines == other.cosines and self.squares == other.squares)

    @property
    def is_bent(self):
        return any([compare(size_of(cosine), ONE) < 0 for _, _, cosine in self.cosines])
