"""Families of rigs in which some marks, amounts and strengths are free within stretches."""
from stillarms.arms import Arms
from stillarms.bounds import first_outside
from stillarms.errors import BadChoice, BadNumbers, BadStretch
from stillarms.ratios import HALF, ZERO, compare, is_ratio, is_whole, plus, times
from stillarms.rigs import Rig
from stillarms.rows import first_wrong, is_row, rows_among


def _is_stretch(thing):
    return is_row(thing, 2, 2) and is_ratio(thing[0]) and is_ratio(thing[1])


def _high_of(thing):
    """The second entry of a stretch; any other thing as it is."""
    return thing[1] if _is_stretch(thing) else thing


def _high_bar(bar):
    return (bar[0], _high_of(bar[1]), bar[2]) if is_row(bar, 3, 3) else bar


def _high_place(place):
    return (place[0], _high_of(place[1])) if is_row(place, 2, 2) else place


def _high_weight(weight):
    return (_high_place(weight[0]), _high_of(weight[1])) if is_row(weight, 2, 2) else weight


def _high_spring(spring):
    if not is_row(spring, 3, 3):
        return spring
    return (_high_place(spring[0]), _high_place(spring[1]), _high_of(spring[2]))


def _high_rows(rows, change):
    """Each row changed; a thing that is no sequence as it is, to be refused as such."""
    return [change(row) for row in rows] if is_row(rows) else rows


def _high_rig(bars, weights, springs):
    """The rig with the second entry of each stretch in its place; its errors are those of the family."""
    arms = Arms(_high_rows(bars, _high_bar))
    return Rig(arms, _high_rows(weights, _high_weight), _high_rows(springs, _high_spring))


def _kept_place(place):
    """The place with its mark, a ratio or a stretch, as a tuple."""
    return (place[0], tuple(place[1]))


def _slots_of(bars, weights, springs):
    """All that may be a stretch, in order: couples of a number or stretch, and the least that is let or None."""
    slots = [(mark, None) for _, mark, _ in bars]
    for place, amount in weights:
        slots.append((place[1], None))
        slots.append((amount, ZERO))
    for one, other, strength in springs:
        slots.append((one[1], None))
        slots.append((other[1], None))
        slots.append((strength, ZERO))
    return slots


def _check_stretches(slots):
    if len(slots) > Stretched.MOST:
        raise BadStretch(0, "many")
    for index, (stretch, least) in enumerate(slots):
        if compare(stretch[0], stretch[1]) >= 0:
            raise BadStretch(index, "order")
        if least is not None and compare(stretch[0], least) < 0:
            raise BadStretch(index, "below")


class Stretched:
    """Rigs of which any mark, amount and strength may be a stretch (low, high), each free of the others."""

    MOST = 6

    def __init__(self, bars, weights=(), springs=()):
        self.letters = _high_rig(bars, weights, springs).arms.letters
        # Ratios are tuples already; stretches may be lists.
        self.bars = tuple([(host, tuple(mark), letter) for host, mark, letter in bars])
        self.weights = tuple([(_kept_place(place), tuple(amount)) for place, amount in weights])
        self.springs = tuple([(_kept_place(one), _kept_place(other), tuple(strength))
                              for one, other, strength in springs])
        slots = _slots_of(self.bars, self.weights, self.springs)
        free = [(entry, least) for entry, least in slots if _is_stretch(entry)]
        _check_stretches(free)
        self.stretches = tuple([entry for entry, _ in free])

    def __len__(self):
        return len(self.stretches)

    def __eq__(self, other):
        return (isinstance(other, Stretched) and self.bars == other.bars
                and self.weights == other.weights and self.springs == other.springs)

    def __contains__(self, numbers):
        return first_outside(numbers, self.stretches) is None

    @property
    def middle(self):
        return tuple([times(HALF, plus(low, high)) for low, high in self.stretches])

    @staticmethod
    def from_rig(rig):
        return Stretched(rig.arms.bars, rig.weights, rig.springs)


def corner_choices(stretched):
    for choice in rows_among(len(stretched.stretches), (0, 1)):
        yield choice


def rig_at(stretched, numbers):
    index = first_outside(numbers, stretched.stretches)
    if index is not None:
        raise BadNumbers(index)
    return _filled(stretched, numbers)


def rig_by(stretched, choice):
    index = first_wrong(choice, len(stretched.stretches), lambda end: is_whole(end, 0, 1))
    if index is not None:
        raise BadChoice(index)
    return _filled(stretched, [stretch[end] for stretch, end in zip(stretched.stretches, choice)])


def _filled(stretched, numbers):
    """The rig with these numbers in the place of the stretches; what is 0 is left out."""
    rest = list(numbers)
    bars = [(host, _next_for(mark, rest), letter) for host, mark, letter in stretched.bars]
    weights = [(_next_place(place, rest), _next_for(amount, rest)) for place, amount in stretched.weights]
    springs = [(_next_place(one, rest), _next_place(other, rest), _next_for(strength, rest))
               for one, other, strength in stretched.springs]
    return Rig(Arms(bars), [weight for weight in weights if weight[1] != ZERO],
               [spring for spring in springs if spring[2] != ZERO])


def _next_for(thing, rest):
    """For a stretch the first of the rest, which is taken from there; a number as it is."""
    return rest.pop(0) if _is_stretch(thing) else thing


def _next_place(place, rest):
    return (place[0], _next_for(place[1], rest))
