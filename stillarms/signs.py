"""Groups of coupled letters, and signs or odd rings of a table of couplings."""
from itertools import permutations

from stillarms.couplings import pairs_of
from stillarms.ratios import ZERO, is_whole
from stillarms.rows import is_row, rows_among


def groups_of(couplings):
    leaders = list(range(couplings.letters + 1))
    for (one, other), number in zip(pairs_of(couplings.letters), couplings.numbers):
        if number != ZERO:
            low = min(leaders[one], leaders[other])
            high = max(leaders[one], leaders[other])
            leaders = [low if leader == high else leader for leader in leaders]
    groups = {}
    for letter, leader in enumerate(leaders):
        groups.setdefault(leader, []).append(letter)
    return tuple([tuple(group) for group in groups.values()])


def signs_for(couplings):
    # The first signs in this order are those with 1 for the least letter of each group.
    for rest in rows_among(couplings.letters, (1, -1)):
        if _do_fit(couplings, (1,) + rest):
            return Signs((1,) + rest)
    return _odd_ring(couplings)


def _do_fit(couplings, signs):
    for (one, other), number in zip(pairs_of(couplings.letters), couplings.numbers):
        if number[0] * signs[one] * signs[other] > 0:
            return False
    return True


def _odd_ring(couplings):
    """The first odd ring of a table that has no signs."""
    letters = list(range(couplings.letters + 1))
    for size in range(3, len(letters) + 1):
        for ring in permutations(letters, size):
            if ring_fault(couplings, OddRing(ring)) is None:
                return OddRing(ring)
    return None


def signs_fault(couplings, signs):
    many = couplings.letters + 1
    if not is_row(signs.signs, many, many):
        return "signs"
    if not all([is_whole(sign) and sign in (1, -1) for sign in signs.signs]):
        return "signs"
    return None if _do_fit(couplings, signs.signs) else "coupling"


def ring_fault(couplings, ring):
    letters = ring.letters
    if not is_row(letters, 3) or not all([is_whole(letter, 0, couplings.letters) for letter in letters]):
        return "letters"
    if not all([letters.count(letter) == 1 for letter in letters]):
        return "letters"
    # At index 0 this is the coupling of the last letter with the first.
    links = [couplings.coupling(letters[at - 1], letters[at]) for at in range(len(letters))]
    if ZERO in links:
        return "coupled"
    return None if len([link for link in links if link[0] > 0]) % 2 == 1 else "even"


class Signs:
    """Signs for a table of couplings, one for each letter from 0 on."""

    def __init__(self, signs):
        self.signs = signs

    def __eq__(self, other):
        return isinstance(other, Signs) and self.signs == other.signs


class OddRing:
    """A ring of coupled letters that shows that there are no signs."""

    def __init__(self, letters):
        self.letters = letters

    def __eq__(self, other):
        return isinstance(other, OddRing) and self.letters == other.letters
