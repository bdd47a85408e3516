"""Loads, which change weights, and slides, which move one number of a rig each to answer them."""
from stillarms.bounds import corners_of, first_outside, is_upward
from stillarms.couplings import couplings_of
from stillarms.errors import BadAmounts, BadLoads, BadSettings, BadSlide
from stillarms.ratios import ONE, ZERO, is_whole
from stillarms.rigs import Rig
from stillarms.rows import is_row, is_worded

MOST_LOADS = 3
MOST_SLIDES = 3
# How long a slide of each form is.
FORMS = {"end": 5, "mark": 4, "strength": 4, "amount": 4}


def check_loads(rig, loads):
    if not is_row(loads, 0, MOST_LOADS):
        raise BadLoads(0, "many")
    taken = []
    for index, load in enumerate(loads):
        _check_load(rig, taken, index, load)
        taken.append(load[0])
    return tuple([tuple(load) for load in loads])


def _check_load(rig, taken, index, load):
    if not is_row(load, 3, 3):
        raise BadLoads(index, "row")
    weight, low, high = load
    if not is_whole(weight, 0, len(rig.weights) - 1) or weight in taken:
        raise BadLoads(index, "weight")
    if not is_upward(low, high) or low[0] < 0:
        raise BadLoads(index, "stretch")


def check_slides(rig, loads, slides):
    loads = check_loads(rig, loads)
    if not is_row(slides, 0, MOST_SLIDES):
        raise BadSlide(0, "many")
    taken = [("weight", load[0]) for load in loads]
    for index, slide in enumerate(slides):
        _check_slide(rig, taken, index, slide)
        taken.append(_owner_of(slide))
    return tuple([tuple(slide) for slide in slides])


def _has_form(thing):
    return is_worded(thing) and FORMS.get(thing[0]) == len(thing)


def _owner_of(slide):
    """What the slide moves a number of: a word, and the number of that weight or spring."""
    return ("spring" if slide[0] in ("end", "strength") else "weight", slide[1])


def _check_slide(rig, taken, index, slide):
    if not _has_form(slide):
        raise BadSlide(index, "row")
    form = slide[0]
    owner, number = _owner_of(slide)
    low, high = slide[-2:]
    if not is_whole(number, 0, len(rig.springs if owner == "spring" else rig.weights) - 1):
        raise BadSlide(index, "number")
    if form == "end" and not is_whole(slide[2], 0, 1):
        raise BadSlide(index, "end")
    if (owner, number) in taken:
        raise BadSlide(index, "taken")
    if not is_upward(low, high) or (form in ("strength", "amount") and low[0] < 0):
        raise BadSlide(index, "stretch")


def check_amounts(loads, amounts):
    if first_outside(amounts, stretches_of(loads)) is not None:
        raise BadAmounts()
    return tuple(amounts)


def check_settings(slides, settings):
    if first_outside(settings, stretches_of(slides)) is not None:
        raise BadSettings()
    return tuple(settings)


def stretches_of(rows):
    """The stretches of loads or slides."""
    return [row[-2:] for row in rows]


def corner_amounts(loads):
    for amounts in corners_of(stretches_of(loads)):
        yield amounts


def corner_settings(slides):
    for settings in corners_of(stretches_of(slides)):
        yield settings


def rig_by_settings(rig, loads, slides, amounts, settings):
    loads = check_loads(rig, loads)
    slides = check_slides(rig, loads, slides)
    amounts = check_amounts(loads, amounts)
    return _rig_with(rig, loads, slides, amounts, check_settings(slides, settings))


def _rig_with(rig, loads, slides, amounts, settings):
    """The rig with numbers for loads and slides that may lie outside their stretches."""
    weights = list(rig.weights)
    springs = list(rig.springs)
    for load, amount in zip(loads, amounts):
        weights[load[0]] = (weights[load[0]][0], amount)
    for slide, setting in zip(slides, settings):
        owner, number = _owner_of(slide)
        if owner == "weight":
            weights[number] = _set_weight(weights[number], slide, setting)
        else:
            springs[number] = _set_spring(springs[number], slide, setting)
    return Rig(rig.arms, [weight for weight in weights if weight[1] != ZERO],
               [spring for spring in springs if spring[2] != ZERO])


def _set_weight(weight, slide, setting):
    place, amount = weight
    if slide[0] == "amount":
        return (place, setting)
    return ((place[0], setting), amount)


def _set_spring(spring, slide, setting):
    one, other, strength = spring
    if slide[0] == "strength":
        return (one, other, setting)
    if slide[2] == 0:
        return ((one[0], setting), other, strength)
    return (one, (other[0], setting), strength)


def straight_parts(rig, loads, slides):
    loads = check_loads(rig, loads)
    slides = check_slides(rig, loads, slides)
    many = len(loads)
    noughts = (ZERO,) * (many + len(slides))
    constant = couplings_of(_rig_with(rig, loads, slides, noughts[:many], noughts[many:]))
    parts = []
    # The couplings are straight in each number, so the step from 0 to 1 tells all there is.
    for index in range(len(noughts)):
        row = noughts[:index] + (ONE,) + noughts[index + 1:]
        couplings = couplings_of(_rig_with(rig, loads, slides, row[:many], row[many:]))
        parts.append(couplings.added(constant.opposite()))
    return Parts(constant, tuple(parts[:many]), tuple(parts[many:]))


class Parts:
    """The couplings of a rig: the constant, and what each load and each slide adds for each 1 of its number."""

    def __init__(self, constant, by_loads, by_slides):
        self.constant = constant
        self.by_loads = by_loads
        self.by_slides = by_slides

    def __eq__(self, other):
        return (isinstance(other, Parts) and self.constant == other.constant
                and self.by_loads == other.by_loads and self.by_slides == other.by_slides)
