"""Wishes that a rig has or has not."""
from stillarms.arms import is_place
from stillarms.brakes import check_brakes, is_held
from stillarms.errors import BadBrakes, BadLock, BadPose, BadWish, TooMixed
from stillarms.feels import felt_weight
from stillarms.leastwork import least_work
from stillarms.locks import check_locks
from stillarms.lockstill import still_locked
from stillarms.poses import check_pose
from stillarms.ratios import compare, is_ratio
from stillarms.rows import is_row, is_worded
from stillarms.stillness import is_still
from stillarms.works import rests_in

MOST_WISHES = 4
# How long a wish of each form is.
FORMS = {"still": 1, "still locked": 2, "held": 2, "rests": 2, "feels": 3, "least": 2}


def check_wish(arms, wish):
    if not _is_wish(arms, wish):
        raise BadWish(0, "wish")


def check_wishes(arms, wishes):
    if not is_row(wishes, 0, MOST_WISHES):
        raise BadWish(0, "many")
    for index, wish in enumerate(wishes):
        if not _is_wish(arms, wish):
            raise BadWish(index, "wish")


def _is_wish(arms, thing):
    if not is_worded(thing) or FORMS.get(thing[0]) != len(thing):
        return False
    if thing[0] == "feels":
        return is_place(arms, thing[1]) and is_ratio(thing[2])
    if thing[0] == "least":
        return is_ratio(thing[1])
    return thing[0] == "still" or _is_right(arms, thing[0], thing[1])


def _is_right(arms, form, thing):
    """Whether a thing is what a wish of this form asks for: locks, brakes or a pose."""
    try:
        if form == "still locked":
            check_locks(arms, thing)
        elif form == "held":
            check_brakes(arms, thing)
        else:
            check_pose(arms, thing)
    except (BadLock, BadBrakes, BadPose):
        return False
    return True


def holds_wish(rig, wish):
    check_wish(rig.arms, wish)
    return _does_hold(rig, wish)


def _does_hold(rig, wish):
    """Whether a rig has a wish that is right."""
    form = wish[0]
    if form == "still":
        return is_still(rig)
    if form == "still locked":
        return still_locked(rig, wish[1]) is None
    if form == "held":
        return is_held(rig, wish[1])
    if form == "rests":
        return rests_in(rig, wish[1])
    if form == "feels":
        return felt_weight(rig, wish[1]) == wish[2]
    return _has_least(rig, wish[1])


def _has_least(rig, ratio):
    """Whether the least work is told and is at least this ratio."""
    try:
        return compare(least_work(rig), ratio) >= 0
    except TooMixed:
        return False


def holds_all(rig, wishes):
    check_wishes(rig.arms, wishes)
    return all([_does_hold(rig, wish) for wish in wishes])
