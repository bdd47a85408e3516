"""Greatest and least distances and heights in all poses, and the belts of spots that places come to."""
from stillarms.directions import DOWN, UP, check_spot, dot_of, is_spot
from stillarms.errors import BadLength
from stillarms.poses import flat_poses, spot_by
from stillarms.ratios import ZERO, compare, greatest_of, is_ratio, minus, plus, size_of, sum_of, times


def _longest(row):
    """The greatest length of a chain of rods of these sizes."""
    return sum_of([size_of(number) for number in row])


def _shortest(row):
    """The least length of such a chain: what the greatest rod has more than all others together."""
    greatest = greatest_of([size_of(number) for number in row])
    return greatest_of([ZERO, minus(plus(greatest, greatest), _longest(row))])


def greatest_distance(arms, one, other):
    return _longest(arms.difference_row(one, other))


def least_distance(arms, one, other):
    return _shortest(arms.difference_row(one, other))


def can_meet(arms, one, other):
    return least_distance(arms, one, other) == ZERO


def _lowest_pose(row):
    """The flat pose in which the spot of a row is lowest; letters of no matter are up."""
    return tuple([DOWN if number[0] > 0 else UP for number in row[1:]])


def _highest_pose(row):
    return tuple([DOWN if number[0] < 0 else UP for number in row[1:]])


def _farthest_of(row):
    return _lowest_pose(row) if row[0][0] < 0 else _highest_pose(row)


def farthest_pose(arms, one, other):
    return _farthest_of(arms.difference_row(one, other))


def nearest_pose(arms, one, other):
    row = arms.difference_row(one, other)
    least = _shortest(row)
    for pose in flat_poses(arms):
        if size_of(spot_by(row, pose)[1]) == least:
            return pose
    return None


def beyond_pose(arms, one, other, length):
    row = arms.difference_row(one, other)
    if not is_ratio(length) or length[0] < 0:
        raise BadLength()
    if compare(_longest(row), length) <= 0:
        return None
    return _farthest_of(row)


def below_pose(arms, one, other):
    row = arms.difference_row(one, other)
    if compare(row[0], _longest(row[1:])) >= 0:
        return None
    return _lowest_pose(row)


def heights_of(arms, place):
    row = arms.row_of(place)
    longest = _longest(row[1:])
    return (minus(row[0], longest), plus(row[0], longest))


def height_poses(arms, place):
    row = arms.row_of(place)
    return (_lowest_pose(row), _highest_pose(row))


def belt_of(arms, place):
    row = arms.row_of(place)
    return Belt(row[0], _shortest(row[1:]), _longest(row[1:]))


def can_come_to(arms, place, spot):
    belt = belt_of(arms, place)
    return check_spot(spot) in belt


class Belt:
    """The spots whose distance from a mark of the mast is from low to high."""

    def __init__(self, centre, low, high):
        self.centre = centre
        self.low = low
        self.high = high

    def __eq__(self, other):
        return (isinstance(other, Belt) and self.centre == other.centre
                and self.low == other.low and self.high == other.high)

    def __contains__(self, spot):
        if not is_spot(spot):
            return False
        away = (spot[0], minus(spot[1], self.centre))
        square = dot_of(away, away)
        return compare(times(self.low, self.low), square) <= 0 and compare(square, times(self.high, self.high)) <= 0
