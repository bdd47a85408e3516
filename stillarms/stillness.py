"""Rigs that are still, and the pushes and rises of work of those that are not."""
from stillarms.couplings import check_turning, couplings_of, others_of, pairs_of
from stillarms.directions import DOWN, LEFT, RIGHT, UP, cross_of, dot_of
from stillarms.errors import BadLot, BadPose, OtherArms
from stillarms.poses import check_pose, put_direction, with_up
from stillarms.ratios import ZERO, is_positive, is_whole, minus, plus, product_of, size_of, sum_of
from stillarms.rows import is_lot


def work_by(couplings, pose):
    ways = with_up(pose)
    cosines = [dot_of(ways[one], ways[other]) for one, other in pairs_of(couplings.letters)]
    return product_of(couplings.numbers, cosines)


def push_by(couplings, pose, letter):
    check_turning(couplings.letters, letter)
    ways = with_up(pose)
    others = others_of(couplings.letters, letter)
    sines = [cross_of(ways[other], ways[letter]) for other in others]
    return product_of([couplings.coupling(other, letter) for other in others], sines)


def push_pose(couplings, letter):
    check_turning(couplings.letters, letter)
    side = -1 if couplings.coupling(0, letter)[0] < 0 else 1
    pose = []
    for other in range(1, couplings.letters + 1):
        if other == letter:
            pose.append(LEFT if side == 1 else RIGHT)
        else:
            pose.append(UP if side * couplings.coupling(other, letter)[0] >= 0 else DOWN)
    return tuple(pose)


def is_still(rig):
    return couplings_of(rig).is_zero()


def still_or_push(rig):
    return _first_push(couplings_of(rig))


def _first_push(couplings):
    """The push told of the least coupled letter from 1 on, or None."""
    for letter in range(1, couplings.letters + 1):
        push = couplings.greatest_push(letter)
        if push != ZERO:
            return Push(letter, push_pose(couplings, letter), push)
    return None


def push_fault(rig, push):
    if not is_whole(push.letter, 1, rig.arms.letters):
        return "letter"
    try:
        pose = check_pose(rig.arms, push.pose)
    except BadPose:
        return "pose"
    if not is_positive(push.push) or push.push != push_by(couplings_of(rig), pose, push.letter):
        return "push"
    return None


def same_feel(one, other):
    if one.arms != other.arms:
        raise OtherArms()
    return _first_push(couplings_of(one).added(couplings_of(other).opposite()))


def work_rise(rig, pose, other):
    before = check_pose(rig.arms, pose)
    behind = check_pose(rig.arms, other)
    couplings = couplings_of(rig)
    return minus(work_by(couplings, behind), work_by(couplings, before))


def greatest_rise(rig, letter):
    couplings = couplings_of(rig)
    pose = push_pose(couplings, letter)
    low = put_direction(pose, letter, DOWN)
    high = put_direction(pose, letter, UP)
    if couplings.coupling(0, letter)[0] < 0:
        low, high = high, low
    push = couplings.greatest_push(letter)
    return Rise(letter, low, high, plus(push, push))


def loose_letters(rig):
    couplings = couplings_of(rig)
    pushes = [couplings.greatest_push(letter) for letter in range(1, couplings.letters + 1)]
    return tuple([index + 1 for index, push in enumerate(pushes) if push == ZERO])


def lot_push(rig, lot):
    letters = rig.arms.letters
    if not is_lot(lot, 1, letters) or len(lot) == 0:
        raise BadLot()
    couplings = couplings_of(rig)
    outside = [other for other in range(letters + 1) if other not in lot]
    for letter in lot:
        push = sum_of([size_of(couplings.coupling(letter, other)) for other in outside])
        if push != ZERO:
            return Push(letter, _lot_pose(couplings, letter, lot), push)
    return None


def _lot_pose(couplings, letter, lot):
    """The push pose of a letter with the other letters of its lot up."""
    pose = push_pose(couplings, letter)
    for other in lot:
        if other != letter:
            pose = put_direction(pose, other, UP)
    return pose


class Push:
    """A push on a letter, or on a lot of letters, in a pose."""

    def __init__(self, letter, pose, push):
        self.letter = letter
        self.pose = pose
        self.push = push

    def __eq__(self, other):
        return (isinstance(other, Push) and self.letter == other.letter
                and self.pose == other.pose and self.push == other.push)


class Rise:
    """How much more work there is in one flat pose than in another that differs in one letter."""

    def __init__(self, letter, low, high, rise):
        self.letter = letter
        self.low = low
        self.high = high
        self.rise = rise

    def __eq__(self, other):
        return (isinstance(other, Rise) and self.letter == other.letter and self.low == other.low
                and self.high == other.high and self.rise == other.rise)
