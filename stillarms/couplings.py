"""Tables of couplings: one ratio for each pair of letters, which decide works and pushes."""
from itertools import combinations

from stillarms.arms import MOST_LETTERS, join_rows, row_at, scale_row
from stillarms.errors import BadCouplings, NoLetter, NoPair, OtherLetters
from stillarms.ratios import HALF, ZERO, is_ratio, is_whole, plus, product_of, size_of, sum_of, times
from stillarms.rows import is_row


def pairs_of(letters):
    return tuple(combinations(range(letters + 1), 2))


def others_of(letters, letter):
    """All letters from 0 on but this one."""
    return [other for other in range(letters + 1) if other != letter]


def zero_couplings(letters):
    return couplings_by(letters, [ZERO for _ in pairs_of(letters)])


def couplings_by(letters, numbers):
    rows = [[] for _ in range(letters)]
    for (one, _), number in zip(pairs_of(letters), numbers):
        rows[one].append(number)
    return Couplings(rows)


def row_couplings(row):
    letters = len(row) - 1
    return couplings_by(letters, [times(row[one], row[other]) for one, other in pairs_of(letters)])


def span_couplings(arms, one, other):
    return row_couplings(arms.difference_row(one, other))


def couplings_of(rig):
    return weight_couplings(rig).added(spring_couplings(rig))


def weight_couplings(rig):
    letters = rig.arms.letters
    numbers = weight_row(rig)
    # Letter 0 comes first in the order of pairs; weights couple with it alone.
    return couplings_by(letters, numbers + zero_couplings(letters).numbers[letters:])


def spring_couplings(rig):
    total = zero_couplings(rig.arms.letters)
    for one, other, strength in rig.springs:
        total = total.added(span_couplings(rig.arms, one, other).scaled(strength))
    return total


def constant_of(rig):
    total = _weight_sums(rig)[0]
    for number, spring in enumerate(rig.springs):
        row = rig.spring_row(number)
        total = plus(total, times(times(HALF, spring[2]), product_of(row, row)))
    return total


def weight_row(rig):
    return _weight_sums(rig)[1:]


def _weight_sums(rig):
    """The sum of the rows of all weights, each times its amount."""
    total = row_at(rig.arms.letters, 0, ZERO)
    for place, amount in rig.weights:
        total = join_rows(total, scale_row(rig.arms.row_of(place), amount))
    return total


def pair_product(one, other):
    if one.letters != other.letters:
        raise OtherLetters()
    return product_of(one.numbers, other.numbers)


def _check_rows(rows):
    if not is_row(rows, 1, MOST_LETTERS):
        raise BadCouplings(0, "many")
    letters = len(rows)
    for index, row in enumerate(rows):
        if not is_row(row, letters - index, letters - index):
            raise BadCouplings(index, "row")
        if not all([is_ratio(number) for number in row]):
            raise BadCouplings(index, "number")


class Couplings:
    """A table of couplings; row j has those of letter j with the letters above it."""

    def __init__(self, rows):
        _check_rows(rows)
        self.rows = tuple([tuple(row) for row in rows])
        self.letters = len(self.rows)
        self.numbers = tuple([number for row in self.rows for number in row])

    def __len__(self):
        return len(self.numbers)

    def __eq__(self, other):
        return isinstance(other, Couplings) and self.rows == other.rows

    def coupling(self, one, other):
        if not is_whole(one, 0, self.letters) or not is_whole(other, 0, self.letters) or one == other:
            raise NoPair(one, other)
        low = min(one, other)
        return self.rows[low][max(one, other) - low - 1]

    def added(self, other):
        if self.letters != other.letters:
            raise OtherLetters()
        return couplings_by(self.letters, join_rows(self.numbers, other.numbers))

    def scaled(self, ratio):
        return couplings_by(self.letters, scale_row(self.numbers, ratio))

    def opposite(self):
        return self.scaled((-1, 1))

    def is_zero(self):
        return all([number == ZERO for number in self.numbers])

    def greatest_push(self, letter):
        check_turning(self.letters, letter)
        return sum_of([size_of(self.coupling(other, letter)) for other in others_of(self.letters, letter)])


def check_turning(letters, letter):
    """Raises NoLetter unless this is a letter from 1 on."""
    if not is_whole(letter, 1, letters):
        raise NoLetter(letter)
