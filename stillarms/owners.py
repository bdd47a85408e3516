"""Springs of their own for the letters that bear, or letters that too few springs touch."""
from stillarms.fewest import bearing_letters
from stillarms.pools import check_pool
from stillarms.ratios import ZERO
from stillarms.rows import lots_among


def owners_of(rig):
    return _owners_among(rig, _spring_rows(rig))


def pool_owners(rig, pool):
    pool = check_pool(rig.arms, pool)
    return _owners_among(rig, _spring_rows(rig) + [rig.arms.difference_row(one, other) for one, other in pool])


def _spring_rows(rig):
    return [rig.spring_row(number) for number in range(len(rig.springs))]


def _owners_among(rig, rows):
    """The owners for springs with these rows."""
    letters = bearing_letters(rig)
    touching = [[number for number, row in enumerate(rows) if row[letter] != ZERO] for letter in letters]
    owners = _first_owners(touching)
    return Owners(owners) if owners is not None else _first_short(letters, touching)


def _first_owners(touching):
    """The first tuple of one number of each row, no two the same, or None."""
    if touching == []:
        return ()
    for number in touching[0]:
        rest = _first_owners([[other for other in row if other != number] for row in touching[1:]])
        if rest is not None:
            return (number,) + rest
    return None


def _first_short(letters, touching):
    """The first lot of letters that fewer springs touch than it has letters, or None."""
    for lot in lots_among(len(letters), len(letters)):
        springs = {number: True for index in lot for number in touching[index]}
        if len(springs) < len(lot):
            return Short(tuple([letters[index] for index in lot]), tuple(sorted(list(springs))))
    return None


class Owners:
    """One spring for each bearing letter, no two the same, each touching its letter."""

    def __init__(self, springs):
        self.springs = springs

    def __eq__(self, other):
        return isinstance(other, Owners) and self.springs == other.springs


class Short:
    """Bearing letters, and the springs that touch them, which are too few."""

    def __init__(self, letters, springs):
        self.letters = letters
        self.springs = springs

    def __eq__(self, other):
        return isinstance(other, Short) and self.letters == other.letters and self.springs == other.springs
