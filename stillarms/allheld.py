"""Questions about all rigs of a family with stretches; the corner choices decide them."""
from stillarms.brakes import check_brakes, fault_keeping, greatest_brakes
from stillarms.couplings import couplings_of
from stillarms.errors import BadChoice
from stillarms.pins import check_pins, slip_keeping
from stillarms.poses import check_pose
from stillarms.ratios import greatest_of, least_of
from stillarms.stillness import push_by, still_or_push, work_rise
from stillarms.stretches import corner_choices, rig_by


def _corner_rigs(stretched):
    """All corner choices in order, each with its rig."""
    return [(choice, rig_by(stretched, choice)) for choice in corner_choices(stretched)]


def _corner_tables(stretched):
    return [(choice, couplings_of(rig)) for choice, rig in _corner_rigs(stretched)]


def _arms_of(stretched):
    """The arms at one corner choice; poses and letters are the same at all of them."""
    return rig_by(stretched, (0,) * len(stretched.stretches)).arms


def _extent_of(row):
    return (least_of(row), greatest_of(row))


def coupling_extent(stretched, one, other):
    return _extent_of([couplings.coupling(one, other) for _, couplings in _corner_tables(stretched)])


def push_extent(stretched, pose, letter):
    pose = check_pose(_arms_of(stretched), pose)
    return _extent_of([push_by(couplings, pose, letter) for _, couplings in _corner_tables(stretched)])


def rise_extent(stretched, pose, other):
    return _extent_of([work_rise(rig, pose, other) for _, rig in _corner_rigs(stretched)])


def numbers_that_matter(stretched):
    tables = {choice: couplings for choice, couplings in _corner_tables(stretched)}
    found = []
    for index in range(len(stretched.stretches)):
        if any([tables[choice] != tables[_turned_choice(choice, index)] for choice in list(tables)]):
            found.append(index)
    return tuple(found)


def _turned_choice(choice, index):
    """The choice with the other end at this index."""
    return choice[:index] + (1 - choice[index],) + choice[index + 1:]


def all_still(stretched):
    for choice, rig in _corner_rigs(stretched):
        push = still_or_push(rig)
        if push is not None:
            return Stirred(choice, push)
    return None


def all_held(stretched, brakes, *, pins=()):
    arms = _arms_of(stretched)
    brakes = check_brakes(arms, brakes)
    pins = check_pins(arms, pins)
    for choice, couplings in _corner_tables(stretched):
        slip = slip_keeping(couplings, brakes, pins)
        if slip is not None:
            return Breach(choice, slip)
    return None


def least_brakes_for(stretched):
    return greatest_brakes([couplings for _, couplings in _corner_tables(stretched)])


def breach_fault(stretched, brakes, breach, *, pins=()):
    arms = _arms_of(stretched)
    brakes = check_brakes(arms, brakes)
    pins = check_pins(arms, pins)
    try:
        rig = rig_by(stretched, breach.choice)
    except BadChoice:
        return "choice"
    return fault_keeping(rig, brakes, pins, breach.slip)


class Stirred:
    """The first corner choice at which a rig is not still, and its push."""

    def __init__(self, choice, push):
        self.choice = choice
        self.push = push

    def __eq__(self, other):
        return isinstance(other, Stirred) and self.choice == other.choice and self.push == other.push


class Breach:
    """The first corner choice at which a rig is not held, and its slip."""

    def __init__(self, choice, slip):
        self.choice = choice
        self.slip = slip

    def __eq__(self, other):
        return isinstance(other, Breach) and self.choice == other.choice and self.slip == other.slip
