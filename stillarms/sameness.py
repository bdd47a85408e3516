"""Places of two arms that are at the same spots in all poses, and rigs that are moved from the one to the other."""
from stillarms.arms import MAST, is_nought, take_row
from stillarms.errors import NoTwin, OtherLetters
from stillarms.ratios import ZERO
from stillarms.rigs import Rig


def _check_letters(one, other):
    if one.letters != other.letters:
        raise OtherLetters()


def _all_lines(arms):
    """The numbers of the mast and of all bars, each with its letter and the row of its mark 0."""
    numbers = list(range(MAST, len(arms.bars)))
    return [(number, _letter_of(arms, number), arms.row_of((number, ZERO))) for number in numbers]


def _letter_of(arms, number):
    return 0 if number == MAST else arms.bars[number][2]


def _is_along(row, letter):
    """Whether a row is 0 but for this letter."""
    return is_nought(row[:letter] + row[letter + 1:])


def twins_on(one, other, place):
    _check_letters(one, other)
    return _twins_by(one.row_of(place), other)


def _twins_by(row, other):
    """The places of the other arms that have this row."""
    found = []
    for number, letter, start in _all_lines(other):
        beyond = take_row(row, start)
        if _is_along(beyond, letter):
            found.append((number, beyond[letter]))
    return tuple(found)


def first_unlike(one, other):
    _check_letters(one, other)
    bar = _first_lonely(one, other)
    if bar is not None:
        return ("one", bar)
    bar = _first_lonely(other, one)
    return None if bar is None else ("other", bar)


def _first_lonely(one, other):
    """The first bar of one that lies alike with no bar of the other, nor on the mast, or None."""
    # The mast has the letter 0 and the row of zeros, so a bar lies on the mast as it lies alike with a bar.
    lines = _all_lines(other)
    for number, letter, start in _all_lines(one)[1:]:
        if not any([letter == its and _is_along(take_row(start, row), letter) for _, its, row in lines]):
            return number
    return None


def moved_rig(rig, other):
    _check_letters(rig.arms, other)
    weights = [(_first_twin(rig.arms, other, place), amount) for place, amount in rig.weights]
    springs = []
    for one, second, strength in rig.springs:
        springs.append((_first_twin(rig.arms, other, one), _first_twin(rig.arms, other, second), strength))
    return Rig(other, weights, springs)


def _first_twin(arms, other, place):
    twins = _twins_by(arms.row_of(place), other)
    if twins == ():
        raise NoTwin(place)
    return twins[0]
