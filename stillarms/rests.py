"""What a pose in which a rig rests is among the poses near it and among all poses; poses of least work."""
from stillarms.couplings import couplings_of, others_of, pairs_of
from stillarms.directions import DOWN, UP, dot_of, mirrored_direction, root_of, turned_as
from stillarms.leastwork import Lowest, blocks_of, cosine_grid, fault_beside, lowest_by, lowest_of
from stillarms.poses import check_pose, flat_poses_of, with_up
from stillarms.ratios import ONE, ZERO, is_whole, minus, negative, over, size_of, sum_of, times
from stillarms.rows import couples_of
from stillarms.squares import Falls, Firm, falls_fault, split_fault, split_grid
from stillarms.stillness import push_by
from stillarms.works import work_at


def _first_pushed(couplings, pose):
    """What is told of the least letter that is pushed, or None."""
    for letter in range(1, couplings.letters + 1):
        if push_by(couplings, pose, letter) != ZERO:
            return Pushed(letter)
    return None


def _cosines_in(couplings, pose):
    ways = with_up(pose)
    return {(one, other): dot_of(ways[one], ways[other]) for one, other in pairs_of(couplings.letters)}


def _near_grid(couplings, pose):
    """The grid whose value, halved, is how the work grows as letters turn by small angles."""
    letters = couplings.letters
    cosines = _cosines_in(couplings, pose)
    # Each is minus w: the coupling times the cosine.
    works = {pair: times(couplings.coupling(pair[0], pair[1]), cosines[pair]) for pair in cosines}
    rows = []
    for one in range(1, letters + 1):
        row = []
        for other in range(1, letters + 1):
            row.append(_near_diagonal(works, letters, one) if one == other else works[_pair_of(one, other)])
        rows.append(row)
    return rows


def _pair_of(one, other):
    return (min(one, other), max(one, other))


def _near_diagonal(works, letters, letter):
    return negative(sum_of([works[_pair_of(letter, other)] for other in others_of(letters, letter)]))


def rest_of(rig, pose):
    pose = check_pose(rig.arms, pose)
    return _rest_by(couplings_of(rig), pose)


def _rest_by(couplings, pose):
    pushed = _first_pushed(couplings, pose)
    return split_grid(_near_grid(couplings, pose)) if pushed is None else pushed


def rest_fault(rig, pose, told):
    pose = check_pose(rig.arms, pose)
    couplings = couplings_of(rig)
    pushed = _first_pushed(couplings, pose)
    if pushed is not None:
        return _pushed_fault(pushed, told)
    return split_fault(_near_grid(couplings, pose), told)


def _pushed_fault(pushed, told):
    if not isinstance(told, Pushed):
        return "class"
    return None if is_whole(told.letter) and told.letter == pushed.letter else "letter"


def overall_of(rig, pose):
    pose = check_pose(rig.arms, pose)
    return _overall_by(couplings_of(rig), pose)


def _overall_grid(couplings, cosines):
    return cosine_grid(couplings, list(range(couplings.letters + 1)), cosines)


def _overall_by(couplings, pose):
    pushed = _first_pushed(couplings, pose)
    if pushed is not None:
        return pushed
    cosines = _cosines_in(couplings, pose)
    split = split_grid(_overall_grid(couplings, cosines))
    return split if isinstance(split, Falls) else lowest_by(couplings, cosines, split)


def overall_fault(rig, pose, told):
    pose = check_pose(rig.arms, pose)
    couplings = couplings_of(rig)
    right = _overall_by(couplings, pose)
    if isinstance(right, Pushed):
        return _pushed_fault(right, told)
    if isinstance(right, Falls):
        if not isinstance(told, Falls):
            return "class"
        return falls_fault(_overall_grid(couplings, _cosines_in(couplings, pose)), told)
    if not isinstance(told, Lowest):
        return "class"
    return fault_beside(couplings, right, told)


def flat_rests(rig):
    couplings = couplings_of(rig)
    for pose in flat_poses_of(couplings.letters):
        yield (pose, work_at(rig, pose), _word_of(_rest_by(couplings, pose)))


def _word_of(split):
    if isinstance(split, Firm):
        return "firm"
    return "falls" if isinstance(split, Falls) else "even"


def lowest_pose(rig):
    couplings = couplings_of(rig)
    links = _links_of(couplings, lowest_of(couplings))
    if links is None:
        return None
    ways = {0: UP}
    for letter in range(1, couplings.letters + 1):
        ways = _with_linked(links, ways)
        if letter not in ways:
            ways[letter] = UP
    ways = _with_linked(links, ways)
    return tuple([ways[letter] for letter in range(1, couplings.letters + 1)])


def _links_of(couplings, lowest):
    """Rows (one, other, turn) that tell how coupled letters stand to one another, or None if no ratios do."""
    cosines = {(one, other): cosine for one, other, cosine in lowest.cosines}
    links = []
    for block in blocks_of(couplings):
        pairs = [pair for pair in couples_of(block) if pair in cosines]
        if all([size_of(cosines[pair]) == ONE for pair in pairs]):
            links += [(one, other, UP if cosines[(one, other)] == ONE else DOWN) for one, other in pairs]
            continue
        bent = _bent_links(cosines, block)
        if bent is None:
            return None
        links += bent
    return links


def _bent_links(cosines, block):
    """The links of a bent block from its first letter; the second one stands to the left of it."""
    i, j, k = block
    near = cosines[(i, j)]
    far = cosines[(i, k)]
    sine = root_of(minus(ONE, times(near, near)))
    if sine is None:
        return None
    other = over(minus(cosines[(j, k)], times(near, far)), sine)
    return [(i, j, (negative(sine), near)), (i, k, (negative(other), far))]


def _with_linked(links, ways):
    """The directions with those of all letters that links tie to them."""
    known = {letter: ways[letter] for letter in ways}
    for _ in links:
        for one, other, turn in links:
            if one in known and other not in known:
                known[other] = turned_as(known[one], turn)
            elif other in known and one not in known:
                known[one] = turned_as(known[other], mirrored_direction(turn))
    return known


class Pushed:
    """The least letter that is pushed in a pose."""

    def __init__(self, letter):
        self.letter = letter

    def __eq__(self, other):
        return isinstance(other, Pushed) and self.letter == other.letter
