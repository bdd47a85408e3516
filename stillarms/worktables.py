"""Works of all flat poses, and tables that one spring alone can have."""
from itertools import combinations

from stillarms.couplings import couplings_by, pairs_of, row_couplings
from stillarms.errors import BadWorks
from stillarms.poses import flat_poses_of
from stillarms.ratios import ONE, ZERO, is_ratio, negative, over, plus, size_of, sum_of, times
from stillarms.rows import is_row
from stillarms.stillness import work_by


def flat_works(constant, couplings):
    return tuple([plus(constant, work_by(couplings, pose)) for pose in flat_poses_of(couplings.letters)])


def split_works(works):
    if not is_row(works) or len(works) not in (2, 4, 8, 16) or not all([is_ratio(work) for work in works]):
        raise BadWorks()
    letters = (2, 4, 8, 16).index(len(works)) + 1
    for size in range(3, letters + 1):
        for lot in combinations(range(1, letters + 1), size):
            if _tangle_of(works, letters, lot) != ZERO:
                return Tangled(lot)
    share = (1, len(works))
    numbers = []
    for one, other in pairs_of(letters):
        # Letter 0 is up in all poses, so it changes no sign.
        lot = (other,) if one == 0 else (one, other)
        numbers.append(times(share, _tangle_of(works, letters, lot)))
    return WorkSplit(times(share, sum_of(works)), couplings_by(letters, numbers))


def _tangle_of(works, letters, lot):
    """The sum of the works, each with its sign changed once for each letter of the lot that is down."""
    signed = []
    for index, work in enumerate(works):
        # The last letter changes fastest, so it is the last bit of the pose's index; a bit of 1 is down.
        downs = [(index >> (letters - letter)) & 1 for letter in lot]
        signed.append(negative(work) if sum(downs) % 2 == 1 else work)
    return sum_of(signed)


def one_spring(couplings):
    letters = _coupled_letters(couplings)
    if letters == []:
        return OneSpring(ONE, (ZERO,) * (couplings.letters + 1))
    strength = _strength_for(couplings, letters)
    if strength is None:
        return None
    first = letters[0]
    row = []
    for letter in range(couplings.letters + 1):
        if letter == first:
            row.append(ONE)
        else:
            row.append(over(couplings.coupling(first, letter), strength))
    if row_couplings(row).scaled(strength) != couplings:
        return None
    return OneSpring(strength, tuple(row))


def _coupled_letters(couplings):
    coupled = [pair for pair, number in zip(pairs_of(couplings.letters), couplings.numbers) if number != ZERO]
    return [letter for letter in range(couplings.letters + 1) if any([letter in pair for pair in coupled])]


def _strength_for(couplings, letters):
    """The only strength that a spring with 1 at the first of these letters can have, or None."""
    first, second = letters[:2]
    if len(letters) == 2:
        return size_of(couplings.coupling(first, second))
    # For letters with 1, p and q a spring of strength s has s p, s q and s p q: the strength is s p * s q / (s p q).
    third = letters[2]
    last = couplings.coupling(second, third)
    if last == ZERO:
        return None
    strength = over(times(couplings.coupling(first, second), couplings.coupling(first, third)), last)
    return strength if strength[0] > 0 else None


class WorkSplit:
    """The constant and the couplings that have given works."""

    def __init__(self, constant, couplings):
        self.constant = constant
        self.couplings = couplings

    def __eq__(self, other):
        return isinstance(other, WorkSplit) and self.constant == other.constant and self.couplings == other.couplings


class Tangled:
    """The first lot of three or more letters whose tangle is not 0."""

    def __init__(self, letters):
        self.letters = letters

    def __eq__(self, other):
        return isinstance(other, Tangled) and self.letters == other.letters


class OneSpring:
    """The strength and the row of one spring that has given couplings."""

    def __init__(self, strength, row):
        self.strength = strength
        self.row = row

    def __eq__(self, other):
        return isinstance(other, OneSpring) and self.strength == other.strength and self.row == other.row
