"""Selections of changes from a pool behind which a rig has all wishes."""
from stillarms.changes import apply_changes, check_form_at
from stillarms.errors import BadChange
from stillarms.rows import is_lot, is_part, is_row, lots_among
from stillarms.wishes import check_wishes, holds_all

MOST_POOL = 5


def _check_pool(rig, pool, wishes):
    if not is_row(pool, 1, MOST_POOL):
        raise BadChange(0, "pool")
    for index, change in enumerate(pool):
        check_form_at(rig.arms, index, change)
    check_wishes(rig.arms, wishes)


def _rig_behind(rig, pool, selection):
    """The rig behind the changes of a selection, or None if it is refused."""
    try:
        return apply_changes(rig, [pool[index] for index in selection])
    except BadChange:
        return None


def _all_good(rig, pool, wishes):
    """All good selections in order, each with the rig behind it."""
    found = []
    for selection in lots_among(len(pool), len(pool)):
        behind = _rig_behind(rig, pool, selection)
        if behind is not None and holds_all(behind, wishes):
            found.append((selection, behind))
    return found


def good_selections(rig, pool, wishes):
    _check_pool(rig, pool, wishes)
    return tuple([selection for selection, _ in _all_good(rig, pool, wishes)])


def _has_part(selections, selection):
    """Whether another one of the selections is within this one."""
    return any([part != selection and is_part(part, selection) for part in selections])


def _all_mends(rig, pool, wishes):
    good = _all_good(rig, pool, wishes)
    selections = [selection for selection, _ in good]
    return [Mend(selection, behind) for selection, behind in good if not _has_part(selections, selection)]


def least_mends(rig, pool, wishes):
    _check_pool(rig, pool, wishes)
    return tuple(_all_mends(rig, pool, wishes))


def spoilers(rig, pool, wishes):
    _check_pool(rig, pool, wishes)
    found = []
    for mend in _all_mends(rig, pool, wishes):
        for index in range(len(pool)):
            if index not in mend.selection and _spoils(rig, pool, wishes, mend.selection, index):
                found.append((mend.selection, index))
    return tuple(found)


def _spoils(rig, pool, wishes, selection, index):
    """Whether a selection with this index is not refused and not good."""
    behind = _rig_behind(rig, pool, sorted(selection + (index,)))
    return behind is not None and not holds_all(behind, wishes)


def mends_fault(rig, pool, wishes, mends):
    if not is_row(mends) or not all([isinstance(mend, Mend) for mend in mends]):
        return "mends"
    good = [selection for selection, _ in _all_good(rig, pool, wishes)]
    for mend in mends:
        fault = _mend_fault(rig, pool, wishes, good, mend)
        if fault is not None:
            return fault
    order = lots_among(len(pool), len(pool))
    places = [order.index(mend.selection) for mend in mends]
    if any([places[at] >= places[at + 1] for at in range(len(places) - 1)]):
        return "order"
    return "missing" if len(mends) != len(_all_mends(rig, pool, wishes)) else None


def _mend_fault(rig, pool, wishes, good, mend):
    """What is wrong with one mend, given all good selections."""
    if not isinstance(mend.selection, tuple) or not is_lot(mend.selection, 0, len(pool) - 1):
        return "selection"
    behind = _rig_behind(rig, pool, mend.selection)
    if behind is None:
        return "refused"
    if mend.rig != behind:
        return "behind"
    if not holds_all(behind, wishes):
        return "wish"
    return "least" if _has_part(good, mend.selection) else None


class Mend:
    """A good selection that has no other one within it, and the rig behind it."""

    def __init__(self, selection, rig):
        self.selection = selection
        self.rig = rig

    def __eq__(self, other):
        return isinstance(other, Mend) and self.selection == other.selection and self.rig == other.rig
