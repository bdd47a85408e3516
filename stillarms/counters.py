"""Counterweights at told places that still a rig, and the least amount that it takes."""
from stillarms.arms import check_place, is_place
from stillarms.couplings import couplings_by, weight_couplings
from stillarms.errors import BadCounterweights, BadPlaces
from stillarms.pooljudge import first_unfit, row_fault, table_fault
from stillarms.pools import still_target
from stillarms.ratios import ONE, ZERO
from stillarms.rigs import Rig
from stillarms.rows import is_row
from stillarms.tasks import Against, least_sum, solve_task

MOST_PLACES = 8


def _check_places(arms, places):
    if not is_row(places, 0, MOST_PLACES):
        raise BadPlaces(0, "many")
    for index, place in enumerate(places):
        if not is_place(arms, place):
            raise BadPlaces(index, "place")
    return [check_place(arms, place) for place in places]


def _weight_columns(arms, places):
    """The couplings of a weight of amount 1 at each place, as columns of a task."""
    return [weight_couplings(Rig(arms, ((place, ONE),))).numbers for place in places]


def counterweights(rig, places):
    places = _check_places(rig.arms, places)
    told = solve_task(_weight_columns(rig.arms, places), still_target(rig))
    if isinstance(told, Against):
        return NoCounterweights(couplings_by(rig.arms.letters, told.numbers))
    return Counterweights(told.amounts)


def least_counterweights(rig, places):
    places = _check_places(rig.arms, places)
    told = least_sum(_weight_columns(rig.arms, places), still_target(rig))
    table = couplings_by(rig.arms.letters, told.numbers)
    if isinstance(told, Against):
        return NoCounterweights(table)
    return LeastCounterweights(told.value, told.amounts, table)


def with_counterweights(rig, places, row):
    places = _check_places(rig.arms, places)
    index = first_unfit(row, len(places))
    if index is not None:
        raise BadCounterweights(index)
    weights = [(place, amount) for place, amount in zip(places, row) if amount != ZERO]
    return Rig(rig.arms, rig.weights + tuple(weights), rig.springs)


def counterweights_fault(rig, places, told):
    places = _check_places(rig.arms, places)
    columns = _weight_columns(rig.arms, places)
    if isinstance(told, NoCounterweights):
        return table_fault(columns, still_target(rig), told.table, {"column": "place", "target": "rig"})
    return row_fault(columns, still_target(rig), told.row, "still")


class Counterweights:
    """Amounts from 0 on, one for each place, that still a rig."""

    def __init__(self, row):
        self.row = row

    def __eq__(self, other):
        return isinstance(other, Counterweights) and self.row == other.row


class NoCounterweights:
    """A table of couplings that shows that no amounts will do."""

    def __init__(self, table):
        self.table = table

    def __eq__(self, other):
        return isinstance(other, NoCounterweights) and self.table == other.table


class LeastCounterweights:
    """The least sum of amounts, a row that has it, and a table that shows that none has less."""

    def __init__(self, value, row, table):
        self.value = value
        self.row = row
        self.table = table

    def __eq__(self, other):
        return (isinstance(other, LeastCounterweights) and self.value == other.value
                and self.row == other.row and self.table == other.table)
