"""Brakes, which hold the letters of a rig against pushes in all poses, and slips of letters that are not held."""
from stillarms.bounds import is_from_zero
from stillarms.couplings import couplings_of
from stillarms.errors import BadBrakes, BadPose
from stillarms.poses import check_pose
from stillarms.ratios import compare, greatest_of, is_ratio, is_whole, size_of
from stillarms.rows import first_wrong
from stillarms.stillness import push_by, push_pose


def check_brakes(arms, brakes):
    index = first_wrong(brakes, arms.letters, is_from_zero)
    if index is not None:
        raise BadBrakes(index)
    return tuple(brakes)


def least_brakes(rig):
    return brakes_for(couplings_of(rig))


def brakes_for(couplings):
    """The least brakes that hold a rig with these couplings in all poses."""
    return tuple([couplings.greatest_push(letter) for letter in range(1, couplings.letters + 1)])


def greatest_brakes(tables):
    """Letter by letter, the greatest of the least brakes for these tables, of which there are one or more."""
    rows = [brakes_for(couplings) for couplings in tables]
    return tuple([greatest_of([row[index] for row in rows]) for index in range(len(rows[0]))])


def is_held(rig, brakes):
    return slip_of(rig, brakes) is None


def slip_of(rig, brakes):
    return first_slip(couplings_of(rig), check_brakes(rig.arms, brakes))


def first_slip(couplings, brakes):
    """The slip of a rig with these couplings under brakes that are right, or None if it is held."""
    for index, least in enumerate(brakes_for(couplings)):
        if compare(least, brakes[index]) > 0:
            return Slips(index + 1, push_pose(couplings, index + 1), least)
    return None


def slip_fault(rig, brakes, slip):
    return fault_keeping(rig, check_brakes(rig.arms, brakes), (), slip)


def fault_keeping(rig, brakes, pins, slip):
    """The first word that applies to a slip in a pose that keeps these pins; brakes and pins are right."""
    # A breach or a loss may bear any thing as its slip; one that is none has no letter.
    letter = slip.letter if isinstance(slip, Slips) else None
    if not is_whole(letter, 1, rig.arms.letters) or letter in [pinned for pinned, _ in pins]:
        return "letter"
    try:
        pose = check_pose(rig.arms, slip.pose)
    except BadPose:
        return "pose"
    if not all([pose[pinned - 1] == direction for pinned, direction in pins]):
        return "pins"
    push = push_by(couplings_of(rig), pose, letter)
    if not is_ratio(slip.push) or slip.push != push:
        return "push"
    return "held" if compare(size_of(push), brakes[letter - 1]) <= 0 else None


class Slips:
    """A letter that is not held in a pose, and the push on it there."""

    def __init__(self, letter, pose, push):
        self.letter = letter
        self.pose = pose
        self.push = push

    def __eq__(self, other):
        return (isinstance(other, Slips) and self.letter == other.letter
                and self.pose == other.pose and self.push == other.push)
