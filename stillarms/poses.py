"""Poses of arms and the spots of places in them."""
from stillarms.arms import check_order
from stillarms.directions import (DOWN, LEFT, RIGHT, UP, check_direction, cosine_between, direction_by, dot_of,
                                  is_direction, is_half, mirrored_direction, sine_between, turned_by)
from stillarms.errors import BadPose, NoLetter
from stillarms.ratios import is_whole, plus, product_of
from stillarms.rows import first_wrong, rows_among


def check_pose(arms, pose):
    index = first_wrong(pose, arms.letters, is_direction)
    if index is not None:
        raise BadPose(index)
    return tuple([tuple(direction) for direction in pose])


def check_letter(arms, letter, least=0):
    if not is_whole(letter, least, arms.letters):
        raise NoLetter(letter)
    return letter


def direction_of(arms, pose, letter):
    pose = check_pose(arms, pose)
    check_letter(arms, letter)
    return with_up(pose)[letter]


def with_up(pose):
    """The directions of all letters from 0 on."""
    return (UP,) + tuple(pose)


def cosine_of(arms, pose, one, other):
    return cosine_between(direction_of(arms, pose, one), direction_of(arms, pose, other))


def sine_of(arms, pose, one, other):
    return sine_between(direction_of(arms, pose, one), direction_of(arms, pose, other))


def up_pose(arms):
    return (UP,) * arms.letters


def pose_by(arms, halves):
    index = first_wrong(halves, arms.letters, is_half)
    if index is not None:
        raise BadPose(index)
    return tuple([direction_by(half) for half in halves])


def flat_poses_of(letters):
    return rows_among(letters, (UP, DOWN))


def flat_poses(arms):
    for pose in flat_poses_of(arms.letters):
        yield pose


def quarter_poses(arms):
    for pose in rows_among(arms.letters, (UP, LEFT, DOWN, RIGHT)):
        yield pose


def put_direction(pose, letter, direction):
    """The pose, a tuple, with another direction of a letter from 1 on."""
    return pose[:letter - 1] + (direction,) + pose[letter:]


def with_direction(arms, pose, letter, direction):
    pose = check_pose(arms, pose)
    check_letter(arms, letter, 1)
    return put_direction(pose, letter, check_direction(direction))


def turned_letter(arms, pose, letter, half):
    pose = check_pose(arms, pose)
    check_letter(arms, letter, 1)
    return put_direction(pose, letter, turned_by(pose[letter - 1], half))


def mirrored_pose(arms, pose):
    return tuple([mirrored_direction(direction) for direction in check_pose(arms, pose)])


def renamed_pose(arms, pose, order):
    pose = check_pose(arms, pose)
    check_order(arms.letters, order)
    return tuple([pose[order.index(letter)] for letter in range(1, arms.letters + 1)])


def spot_by(row, pose):
    """The sum of the entries of a row times the directions of their letters."""
    across = product_of(row[1:], [direction[0] for direction in pose])
    upward = product_of(row[1:], [direction[1] for direction in pose])
    return (across, plus(row[0], upward))


def square_by(row, pose):
    """The square of the distance of the spot of a row from the foot of the mast."""
    spot = spot_by(row, pose)
    return dot_of(spot, spot)


def place_at(arms, pose, place):
    pose = check_pose(arms, pose)
    return spot_by(arms.row_of(place), pose)


def height_at(arms, pose, place):
    return place_at(arms, pose, place)[1]


def hinges_at(arms, pose):
    pose = check_pose(arms, pose)
    return tuple([spot_by(arms.hinge_row(number), pose) for number in range(len(arms.bars))])


def square_between(arms, pose, one, other):
    pose = check_pose(arms, pose)
    return square_by(arms.difference_row(one, other), pose)
