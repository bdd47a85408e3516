"""Changes of a rig: weights and springs that are put to it or taken away."""
from stillarms.arms import is_place
from stillarms.errors import BadChange
from stillarms.ratios import is_positive, is_whole
from stillarms.rigs import MOST_SPRINGS, MOST_WEIGHTS
from stillarms.rows import is_row, is_worded

MOST_CHANGES = 8
# How long a change of each form is.
FORMS = {"weight": 3, "spring": 4, "drop": 2, "cut": 2}


def check_form(arms, change):
    check_form_at(arms, 0, change)


def check_form_at(arms, index, change):
    """Raises BadChange with this index for a fault of form."""
    if not _has_form(change):
        raise BadChange(index, "change")
    form = change[0]
    if form in ("drop", "cut"):
        if not is_whole(change[1], 0):
            raise BadChange(index, "number")
        return
    if not all([is_place(arms, place) for place in change[1:-1]]):
        raise BadChange(index, "place")
    if not is_positive(change[-1]):
        raise BadChange(index, "amount" if form == "weight" else "strength")


def _has_form(thing):
    return is_worded(thing) and FORMS.get(thing[0]) == len(thing)


def kept_change(change):
    """A change of right form as a tuple, its places too; what is taken away has none."""
    return (change[0],) + tuple([tuple(place) for place in change[1:-1]]) + (change[-1],)


def apply_change(rig, change):
    return _applied(rig, 0, change)


def _applied(rig, index, change):
    """The rig behind the change; its errors have this index."""
    check_form_at(rig.arms, index, change)
    form = change[0]
    row, most = (rig.weights, MOST_WEIGHTS) if form in ("weight", "drop") else (rig.springs, MOST_SPRINGS)
    if form in ("weight", "spring") and len(row) >= most:
        raise BadChange(index, "many")
    if form in ("drop", "cut") and change[1] >= len(row):
        raise BadChange(index, "absent")
    if form == "weight":
        return rig.with_weight(change[1], change[2])
    if form == "spring":
        return rig.with_spring(change[1], change[2], change[3])
    return rig.without_weight(change[1]) if form == "drop" else rig.without_spring(change[1])


def apply_changes(rig, changes):
    if not is_row(changes, 0, MOST_CHANGES):
        raise BadChange(0, "pool")
    for index, change in enumerate(changes):
        rig = _applied(rig, index, change)
    return rig
