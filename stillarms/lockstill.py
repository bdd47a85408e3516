"""Rigs that locks make still, and the fewest locks that do so."""
from stillarms.couplings import couplings_of, pairs_of
from stillarms.locks import check_locks, do_obey, leaders_by, locked_pose
from stillarms.poses import quarter_poses, up_pose
from stillarms.ratios import ZERO, minus, plus
from stillarms.rows import couples_of
from stillarms.stillness import work_by


def locked_couplings(rig, locks):
    return _locked_rows(couplings_of(rig), check_locks(rig.arms, locks))


def _locked_rows(couplings, locks):
    """The rows for locks that are right."""
    places = leaders_by(couplings.letters, locks)
    leaders = [letter for letter, (leader, _) in enumerate(places) if letter == leader]
    sums = {pair: (ZERO, ZERO) for pair in couples_of(leaders)}
    for (one, other), number in zip(pairs_of(couplings.letters), couplings.numbers):
        first = min(places[one], places[other])
        second = max(places[one], places[other])
        pair = (first[0], second[0])
        if pair in sums:
            sums[pair] = _with_coupling(sums[pair], number, (second[1] - first[1]) % 4)
    return tuple([pair + sums[pair] for pair in sums])


def _with_coupling(sums, number, quarters):
    """Along and across with a coupling whose second letter stands so many quarters further to the left."""
    along, across = sums
    if quarters == 0:
        return (plus(along, number), across)
    if quarters == 1:
        return (along, minus(across, number))
    if quarters == 2:
        return (minus(along, number), across)
    return (along, plus(across, number))


def _is_stilled(couplings, locks):
    return all([along == ZERO and across == ZERO for _, _, along, across in _locked_rows(couplings, locks)])


def still_locked(rig, locks):
    locks = check_locks(rig.arms, locks)
    couplings = couplings_of(rig)
    if _is_stilled(couplings, locks):
        return None
    start = work_by(couplings, locked_pose(rig.arms, locks, up_pose(rig.arms)))
    for pose in quarter_poses(rig.arms):
        if do_obey(locks, pose) and work_by(couplings, pose) != start:
            return Uneven(pose, minus(work_by(couplings, pose), start))
    return None


def _locks_behind(letters, letter):
    """All locks in ascending order whose second letter is above this one."""
    return [(one, other, quarters) for one in range(letters) for other in range(max(one, letter) + 1, letters + 1)
            for quarters in range(4)]


def stilling_locks(rig):
    couplings = couplings_of(rig)
    return tuple([lock for lock in _locks_behind(couplings.letters, 0) if _is_stilled(couplings, (lock,))])


def fewest_locks(rig):
    couplings = couplings_of(rig)
    # As many locks as letters tie all of them to letter 0, so that nothing moves.
    for many in range(couplings.letters + 1):
        found = _first_stilling(couplings, (), many)
        if found is not None:
            return found
    return None


def _first_stilling(couplings, locks, many):
    """The first locks in order that still a rig and begin with these, followed by so many more, or None."""
    if many == 0:
        return locks if _is_stilled(couplings, locks) else None
    last = locks[-1][1] if locks != () else 0
    for lock in _locks_behind(couplings.letters, last):
        found = _first_stilling(couplings, locks + (lock,), many - 1)
        if found is not None:
            return found
    return None


class Uneven:
    """A pose that obeys locks, and how much more work there is in it than with all leaders up."""

    def __init__(self, pose, rise):
        self.pose = pose
        self.rise = rise

    def __eq__(self, other):
        return isinstance(other, Uneven) and self.pose == other.pose and self.rise == other.rise
