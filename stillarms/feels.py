"""Rigs that feel as a multiple of another rig, a weight or a spring; weights and springs that nobody feels."""
from stillarms.arms import check_place
from stillarms.couplings import couplings_of, span_couplings, weight_couplings
from stillarms.errors import OtherLetters
from stillarms.ratios import ONE, ZERO, over
from stillarms.rigs import Rig


def felt_ratio(one, other):
    if one.arms.letters != other.arms.letters:
        raise OtherLetters()
    return _share_of(couplings_of(one), couplings_of(other))


def _share_of(couplings, unit):
    """The ratio by which the unit's table gives the couplings, 0 for tables of zeros, or None."""
    share = ZERO
    for number, its in zip(couplings.numbers, unit.numbers):
        if its != ZERO:
            share = over(number, its)
            break
    return share if unit.scaled(share) == couplings else None


def felt_weight(rig, place):
    place = check_place(rig.arms, place)
    return _share_of(couplings_of(rig), weight_couplings(Rig(rig.arms, ((place, ONE),))))


def felt_spring(rig, one, other):
    return _share_of(couplings_of(rig), span_couplings(rig.arms, one, other))


def needless_weights(rig):
    tables = [weight_couplings(Rig(rig.arms, (weight,))) for weight in rig.weights]
    return tuple([number for number, table in enumerate(tables) if table.is_zero()])


def needless_springs(rig):
    tables = [span_couplings(rig.arms, one, other) for one, other, _ in rig.springs]
    return tuple([number for number, table in enumerate(tables) if table.is_zero()])
