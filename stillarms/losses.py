"""Rigs that lose springs, or of which springs grow weak, and whether brakes hold them all the same."""
from stillarms.bounds import is_within
from stillarms.brakes import check_brakes, fault_keeping, greatest_brakes
from stillarms.couplings import couplings_of, span_couplings
from stillarms.errors import BadCount, BadLot, BadShares
from stillarms.pins import check_pins, slip_keeping
from stillarms.ratios import ONE, ZERO, is_whole, negative, times
from stillarms.rigs import Rig
from stillarms.rows import first_wrong, is_lot, is_part, lots_among


def spring_lots(rig, count):
    for lot in _lots_of(rig, count):
        yield lot


def _lots_of(rig, count):
    if not is_whole(count, 0):
        raise BadCount(count)
    return lots_among(len(rig.springs), count)


def _is_spring_lot(rig, lot):
    return is_lot(lot, 0, len(rig.springs) - 1)


def without_lot(rig, lot):
    if not _is_spring_lot(rig, lot):
        raise BadLot()
    return Rig(rig.arms, rig.weights, [spring for number, spring in enumerate(rig.springs) if number not in lot])


def weakened(rig, shares):
    index = first_wrong(shares, len(rig.springs), lambda share: is_within(share, ZERO, ONE))
    if index is not None:
        raise BadShares(index)
    springs = [(one, other, times(strength, share)) for (one, other, strength), share in zip(rig.springs, shares)]
    return Rig(rig.arms, rig.weights, [spring for spring in springs if spring[2] != ZERO])


def _tables_without(rig, lots):
    """The lots in order, each with the couplings of the rig without it."""
    whole = couplings_of(rig)
    lost = [span_couplings(rig.arms, one, other).scaled(negative(strength)) for one, other, strength in rig.springs]
    tables = []
    for lot in lots:
        table = whole
        for number in lot:
            table = table.added(lost[number])
        tables.append((lot, table))
    return tables


def held_without(rig, brakes, count, *, pins=()):
    brakes = check_brakes(rig.arms, brakes)
    lots = _lots_of(rig, count)
    pins = check_pins(rig.arms, pins)
    for lot, table in _tables_without(rig, lots):
        slip = slip_keeping(table, brakes, pins)
        if slip is not None:
            return Lost(lot, slip)
    return None


def least_brakes_without(rig, count):
    return greatest_brakes([table for _, table in _tables_without(rig, _lots_of(rig, count))])


def most_lost(rig, brakes):
    lost = held_without(rig, brakes, len(rig.springs))
    if lost is None:
        return len(rig.springs)
    # The lots come by their size, so all lots of fewer springs are well.
    return len(lost.lot) - 1 if lost.lot != () else None


def least_losses(rig, brakes):
    brakes = check_brakes(rig.arms, brakes)
    found = []
    for lot, table in _tables_without(rig, lots_among(len(rig.springs), len(rig.springs))):
        if any([is_part(part, lot) for part in found]):
            continue
        if slip_keeping(table, brakes, ()) is not None:
            found.append(lot)
    return tuple(found)


def loss_fault(rig, brakes, loss, *, pins=()):
    brakes = check_brakes(rig.arms, brakes)
    pins = check_pins(rig.arms, pins)
    if not _is_spring_lot(rig, loss.lot):
        return "lot"
    return fault_keeping(without_lot(rig, loss.lot), brakes, pins, loss.slip)


class Lost:
    """The first lot of springs without which a rig is not held, and the slip then."""

    def __init__(self, lot, slip):
        self.lot = lot
        self.slip = slip

    def __eq__(self, other):
        return isinstance(other, Lost) and self.lot == other.lot and self.slip == other.slip
