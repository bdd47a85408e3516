"""A weight that is shared among places, so that nobody feels the change."""
from stillarms.arms import check_place, is_place
from stillarms.bounds import are_ratios, is_from_zero
from stillarms.errors import BadSpread
from stillarms.ratios import ONE
from stillarms.rows import is_row
from stillarms.taskjudge import against_fault, solution_fault
from stillarms.tasks import Against, Solution, solve_task

MOST_SHARES = 6


def _check_shares(arms, place, places):
    """The place and the places as tuples."""
    place = check_place(arms, place)
    if not is_row(places, 1, MOST_SHARES):
        raise BadSpread(0, "many")
    for index, thing in enumerate(places):
        if not is_place(arms, thing):
            raise BadSpread(index, "place")
    return place, [tuple(thing) for thing in places]


def _column_of(arms, place, exact):
    row = arms.row_of(place)
    return (ONE,) + row if exact else row[1:]


def _task_of(arms, place, places, exact):
    """The columns and the target of the amounts."""
    place, places = _check_shares(arms, place, places)
    return [_column_of(arms, other, exact) for other in places], _column_of(arms, place, exact)


def spread_weight(arms, place, places, *, exact=False):
    columns, target = _task_of(arms, place, places, exact)
    told = solve_task(columns, target)
    return NoSpread(told.numbers) if isinstance(told, Against) else Spread(told.amounts)


def spread_fault(arms, place, places, told, *, exact=False):
    columns, target = _task_of(arms, place, places, exact)
    if isinstance(told, Spread):
        return _amounts_fault(columns, target, told.amounts)
    if isinstance(told, NoSpread):
        return _numbers_fault(columns, target, told.numbers)
    return "kind"


def _amounts_fault(columns, target, amounts):
    many = len(columns)
    if not are_ratios(amounts, many, many) or not all([is_from_zero(amount) for amount in amounts]):
        return "amounts"
    return solution_fault(columns, target, Solution(amounts))


def _numbers_fault(columns, target, numbers):
    if not are_ratios(numbers, len(target), len(target)):
        return "numbers"
    words = {"column": "places", "target": "place"}
    return words.get(against_fault(columns, target, Against(numbers)))


class Spread:
    """Amounts from 0 on, one for each place, that share a weight of 1."""

    def __init__(self, amounts):
        self.amounts = amounts

    def __eq__(self, other):
        return isinstance(other, Spread) and self.amounts == other.amounts


class NoSpread:
    """Numbers, one for each entry of a column, that show that no amounts share a weight."""

    def __init__(self, numbers):
        self.numbers = numbers

    def __eq__(self, other):
        return isinstance(other, NoSpread) and self.numbers == other.numbers
