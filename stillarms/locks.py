"""Locks, which hold letters at quarters from one another, and the poses that obey them."""
from stillarms.directions import turned_quarters
from stillarms.errors import BadLock
from stillarms.poses import check_pose, with_up
from stillarms.ratios import is_whole
from stillarms.rows import is_row


def check_locks(arms, locks):
    if not is_row(locks, 0, arms.letters):
        raise BadLock(0, "many")
    leaders = _loose_leaders(arms.letters)
    for index, lock in enumerate(locks):
        _check_lock(arms.letters, leaders, index, lock)
        leaders = _tied(leaders, lock)
    return tuple([tuple(lock) for lock in locks])


def _check_lock(letters, leaders, index, lock):
    if not is_row(lock, 3, 3):
        raise BadLock(index, "lock")
    one, other, quarters = lock
    if not is_whole(one, 0, letters) or not is_whole(other, one + 1, letters):
        raise BadLock(index, "letters")
    if not is_whole(quarters, 0, 3):
        raise BadLock(index, "quarters")
    if leaders[one][0] == leaders[other][0]:
        raise BadLock(index, "tied")


def _loose_leaders(letters):
    return tuple([(letter, 0) for letter in range(letters + 1)])


def _tied(leaders, lock):
    """The leaders when a further lock ties the letters of two of them."""
    one, other, quarters = lock
    # How far the leader of the second letter stands to the left of that of the first.
    between = leaders[one][1] + quarters - leaders[other][1]
    least = min(leaders[one][0], leaders[other][0])
    if leaders[other][0] == least:
        moved, turn = leaders[one][0], -between
    else:
        moved, turn = leaders[other][0], between
    return tuple([(least, (own + turn) % 4) if leader == moved else (leader, own) for leader, own in leaders])


def leaders_of(arms, locks):
    return leaders_by(arms.letters, check_locks(arms, locks))


def leaders_by(letters, locks):
    """The leaders for locks that are right."""
    leaders = _loose_leaders(letters)
    for lock in locks:
        leaders = _tied(leaders, lock)
    return leaders


def obeys_locks(arms, locks, pose):
    locks = check_locks(arms, locks)
    return do_obey(locks, check_pose(arms, pose))


def do_obey(locks, pose):
    """Whether a pose obeys locks that are right."""
    ways = with_up(pose)
    return all([ways[other] == turned_quarters(ways[one], quarters) for one, other, quarters in locks])


def locked_pose(arms, locks, pose):
    leaders = leaders_of(arms, locks)
    ways = with_up(check_pose(arms, pose))
    return tuple([turned_quarters(ways[leader], quarters) for leader, quarters in leaders[1:]])
