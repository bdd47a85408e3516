"""Rigs: arms with the weights and springs that they bear."""
from stillarms.arms import grown_place, is_place, shifted_place
from stillarms.errors import BadRig, NoSuch, OtherArms
from stillarms.ratios import is_positive, is_whole
from stillarms.rows import is_row

MOST_WEIGHTS = 8
MOST_SPRINGS = 12


def check_number(number, row):
    """Raises NoSuch unless the row has an entry of this number."""
    if not is_whole(number, 0, len(row) - 1):
        raise NoSuch(number)


def _check_weights(arms, weights):
    if not is_row(weights, 0, MOST_WEIGHTS):
        raise BadRig(0, "weights")
    for index, weight in enumerate(weights):
        if not is_row(weight, 2, 2):
            raise BadRig(index, "weight")
        place, amount = weight
        if not is_place(arms, place):
            raise BadRig(index, "place")
        if not is_positive(amount):
            raise BadRig(index, "amount")


def _check_springs(arms, springs):
    if not is_row(springs, 0, MOST_SPRINGS):
        raise BadRig(0, "springs")
    for index, spring in enumerate(springs):
        if not is_row(spring, 3, 3):
            raise BadRig(index, "spring")
        one, other, strength = spring
        if not is_place(arms, one) or not is_place(arms, other):
            raise BadRig(index, "end")
        if not is_positive(strength):
            raise BadRig(index, "strength")


def _without(row, number):
    check_number(number, row)
    return row[:number] + row[number + 1:]


def _with_last(row, number, last):
    """The row with another last part of its entry of this number."""
    check_number(number, row)
    return row[:number] + (row[number][:-1] + (last,),) + row[number + 1:]


class Rig:
    """Arms, weights (place, amount) and springs (place, place, strength)."""

    def __init__(self, arms, weights=(), springs=()):
        _check_weights(arms, weights)
        _check_springs(arms, springs)
        self.arms = arms
        self.weights = tuple([(tuple(place), amount) for place, amount in weights])
        self.springs = tuple([(tuple(one), tuple(other), strength) for one, other, strength in springs])

    def __len__(self):
        return len(self.weights + self.springs)

    def __eq__(self, other):
        return (isinstance(other, Rig) and self.arms == other.arms
                and self.weights == other.weights and self.springs == other.springs)

    def with_weight(self, place, amount):
        return Rig(self.arms, self.weights + ((place, amount),), self.springs)

    def with_spring(self, one, other, strength):
        return Rig(self.arms, self.weights, self.springs + ((one, other, strength),))

    def without_weight(self, number):
        return Rig(self.arms, _without(self.weights, number), self.springs)

    def without_spring(self, number):
        return Rig(self.arms, self.weights, _without(self.springs, number))

    def with_amount(self, number, amount):
        return Rig(self.arms, _with_last(self.weights, number, amount), self.springs)

    def with_strength(self, number, strength):
        return Rig(self.arms, self.weights, _with_last(self.springs, number, strength))

    def bare(self):
        return Rig(self.arms, self.weights)

    def joined(self, other):
        if self.arms != other.arms:
            raise OtherArms()
        return Rig(self.arms, self.weights + other.weights, self.springs + other.springs)

    def spring_row(self, number):
        check_number(number, self.springs)
        one, other, _ = self.springs[number]
        return self.arms.difference_row(one, other)

    def weight_rows(self):
        return tuple([self.arms.row_of(place) for place, _ in self.weights])

    def grown(self, size):
        return self._moved(self.arms.grown(size), lambda place: grown_place(place, size))

    def renamed(self, order):
        return Rig(self.arms.renamed(order), self.weights, self.springs)

    def shifted(self, step):
        return self._moved(self.arms.shifted(step), lambda place: shifted_place(place, step))

    def _moved(self, arms, move):
        """The rig on other arms, with all its places moved."""
        weights = [(move(place), amount) for place, amount in self.weights]
        springs = [(move(one), move(other), strength) for one, other, strength in self.springs]
        return Rig(arms, weights, springs)
