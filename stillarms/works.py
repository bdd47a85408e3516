"""Works of rigs in poses, pushes on letters, and what one letter alone can do."""
from stillarms.arms import is_nought
from stillarms.directions import DOWN, LEFT, UP, check_direction, cross_of, dot_of, opposite_of, root_of
from stillarms.poses import check_letter, check_pose, put_direction, spot_by, square_by
from stillarms.ratios import HALF, ZERO, minus, negative, over, plus, sum_of, times
from stillarms.rigs import check_number


def weight_works(rig, pose):
    pose = check_pose(rig.arms, pose)
    amounts = [amount for _, amount in rig.weights]
    return tuple([times(amount, spot_by(row, pose)[1]) for amount, row in zip(amounts, rig.weight_rows())])


def spring_works(rig, pose):
    pose = check_pose(rig.arms, pose)
    works = []
    for number, spring in enumerate(rig.springs):
        works.append(times(times(HALF, spring[2]), square_by(rig.spring_row(number), pose)))
    return tuple(works)


def work_at(rig, pose):
    return sum_of(weight_works(rig, pose) + spring_works(rig, pose))


def push_of_weight(rig, pose, number, letter):
    pose = check_pose(rig.arms, pose)
    check_number(number, rig.weights)
    check_letter(rig.arms, letter, 1)
    return _weight_push(rig, pose, number, letter)


def push_of_spring(rig, pose, number, letter):
    pose = check_pose(rig.arms, pose)
    check_number(number, rig.springs)
    check_letter(rig.arms, letter, 1)
    return _spring_push(rig, pose, number, letter)


def _weight_push(rig, pose, number, letter):
    place, amount = rig.weights[number]
    row = rig.arms.row_of(place)
    return negative(times(times(amount, row[letter]), pose[letter - 1][0]))


def _spring_push(rig, pose, number, letter):
    row = rig.spring_row(number)
    strength = rig.springs[number][2]
    return times(times(strength, row[letter]), cross_of(spot_by(row, pose), pose[letter - 1]))


def push_at(rig, pose, letter):
    pose = check_pose(rig.arms, pose)
    check_letter(rig.arms, letter, 1)
    weights = [_weight_push(rig, pose, number, letter) for number in range(len(rig.weights))]
    springs = [_spring_push(rig, pose, number, letter) for number in range(len(rig.springs))]
    return sum_of(weights + springs)


def pushes_at(rig, pose):
    pose = check_pose(rig.arms, pose)
    return tuple([push_at(rig, pose, letter) for letter in range(1, rig.arms.letters + 1)])


def rests_in(rig, pose):
    return is_nought(pushes_at(rig, pose))


def sway_of(rig, pose, letter):
    pose = check_pose(rig.arms, pose)
    check_letter(rig.arms, letter, 1)
    # The work is steady + across * x + upward * y, so three directions tell the three numbers.
    up = work_at(rig, put_direction(pose, letter, UP))
    down = work_at(rig, put_direction(pose, letter, DOWN))
    left = work_at(rig, put_direction(pose, letter, LEFT))
    steady = times(HALF, plus(up, down))
    return Sway(minus(steady, left), minus(up, steady), steady)


def resting_directions(sway):
    root = root_of(sway.swing)
    if sway.is_free() or root is None:
        return ()
    greatest = (over(sway.across, root), over(sway.upward, root))
    return (opposite_of(greatest), greatest)


class Sway:
    """The work while one letter alone turns: steady + across * x + upward * y."""

    def __init__(self, across, upward, steady):
        self.across = across
        self.upward = upward
        self.steady = steady

    def __eq__(self, other):
        return (isinstance(other, Sway) and self.across == other.across
                and self.upward == other.upward and self.steady == other.steady)

    def work_in(self, direction):
        return plus(self.steady, dot_of((self.across, self.upward), check_direction(direction)))

    def push_in(self, direction):
        return cross_of((self.across, self.upward), check_direction(direction))

    def is_free(self):
        return self.across == ZERO and self.upward == ZERO

    @property
    def swing(self):
        return dot_of((self.across, self.upward), (self.across, self.upward))
