"""Questions about places in all poses: whether they are one, copy one another, keep distances and lines."""
from itertools import combinations

from stillarms.arms import is_nought, join_rows, letter_row, scale_row, take_row
from stillarms.directions import check_spot, cross_of, dot_of
from stillarms.poses import quarter_poses, spot_by, square_by
from stillarms.ratios import ONE, ZERO, minus, negative, over, plus, product_of, times


def _first_pose(arms, differs):
    """The first quarter pose that differs.

    What is asked about is, for each letter alone, a sum of a number and of multiples of its x and y. That is 0 in
    all directions if it is 0 up, left, down and right, so there is such a pose if any pose differs.
    """
    for pose in quarter_poses(arms):
        if differs(pose):
            return pose
    return None


def _off_pose(arms, row):
    """None if a row leads to the foot of the mast in all poses, else a pose in which it does not."""
    if is_nought(row):
        return None
    return _first_pose(arms, lambda pose: spot_by(row, pose) != (ZERO, ZERO))


def apart_pose(arms, one, other):
    return _off_pose(arms, arms.difference_row(one, other))


def always_one(arms, one, other):
    return is_nought(arms.difference_row(one, other))


def group_places(arms, places):
    groups = {}
    for index, place in enumerate(places):
        groups.setdefault(arms.row_of(place), []).append(index)
    return tuple([tuple(group) for group in groups.values()])


def same_hinges(arms):
    rows = [arms.hinge_row(number) for number in range(len(arms.bars))]
    return tuple([(one, other) for one, other in combinations(range(len(rows)), 2) if rows[one] == rows[other]])


def copying_of(arms, one, other):
    image = arms.row_of(one)
    source = arms.row_of(other)
    if is_nought(image[1:]) or is_nought(source[1:]):
        return None
    ratio = _ratio_between(image[1:], source[1:])
    if scale_row(source[1:], ratio) != image[1:]:
        return None
    return Copying(ratio, minus(image[0], times(ratio, source[0])))


def _ratio_between(image, source):
    """The only ratio that can take the source, which is not all 0, to the image."""
    letter = [number != ZERO for number in source].index(True)
    return over(image[letter], source[letter])


def uncopied_pose(arms, one, other, copying):
    row = arms.row_of(one)
    source = arms.row_of(other)
    image = join_rows(scale_row(source, copying.ratio), scale_row(letter_row(arms, 0), copying.shift))
    return _off_pose(arms, take_row(row, image))


def keeps_distance(arms, one, other):
    row = arms.difference_row(one, other)
    if len([number for number in row if number != ZERO]) > 1:
        return None
    return product_of(row, row)


def unequal_pose(arms, one, other, third, fourth):
    near = arms.difference_row(one, other)
    far = arms.difference_row(third, fourth)
    if _are_as_long(near, far):
        return None
    return _first_pose(arms, lambda pose: square_by(near, pose) != square_by(far, pose))


def _are_as_long(near, far):
    unlike = [times(near[j], near[k]) != times(far[j], far[k]) for j, k in combinations(range(len(near)), 2)]
    return not any(unlike) and product_of(near, near) == product_of(far, far)


def slanting_pose(arms, one, other, third, fourth):
    near = arms.difference_row(one, other)
    far = arms.difference_row(third, fourth)
    slants = [times(near[j], far[k]) != times(near[k], far[j]) for j, k in combinations(range(len(near)), 2)]
    if not any(slants):
        return None
    return _first_pose(arms, lambda pose: cross_of(spot_by(near, pose), spot_by(far, pose)) != ZERO)


def crossing_pose(arms, one, other, third, fourth):
    near = arms.difference_row(one, other)
    far = arms.difference_row(third, fourth)
    if _are_crossed(near, far):
        return None
    return _first_pose(arms, lambda pose: dot_of(spot_by(near, pose), spot_by(far, pose)) != ZERO)


def _are_crossed(near, far):
    sums = [plus(times(near[j], far[k]), times(near[k], far[j])) for j, k in combinations(range(len(near)), 2)]
    return is_nought(sums) and product_of(near, far) == ZERO


def crooked_pose(arms, one, other, third):
    return slanting_pose(arms, one, other, third, other)


class Copying:
    """How a place copies another one: ratio * spot + (0, shift)."""

    def __init__(self, ratio, shift):
        self.ratio = ratio
        self.shift = shift

    def __eq__(self, other):
        return isinstance(other, Copying) and self.ratio == other.ratio and self.shift == other.shift

    def image_of(self, spot):
        x, y = check_spot(spot)
        return (times(self.ratio, x), plus(times(self.ratio, y), self.shift))

    def chained(self, other):
        return Copying(times(self.ratio, other.ratio), plus(times(self.ratio, other.shift), self.shift))

    def turned_back(self):
        return Copying(over(ONE, self.ratio), negative(over(self.shift, self.ratio)))

    @property
    def fixed_mark(self):
        if self.ratio == ONE:
            return None
        return over(self.shift, minus(ONE, self.ratio))
