"""Tasks: amounts from 0 on that make a target of columns, at least cost, or what shows that there are none."""
from stillarms.bounds import are_ratios
from stillarms.errors import BadTask
from stillarms.ratios import ONE, negative, product_of
from stillarms.rows import is_row
from stillarms.simplex import Tableau, scale_for, whole_row

MOST_ROWS = 40
MOST_COLUMNS = 80


def check_task(columns, target):
    """Raises BadTask unless these are the columns and the target of a task."""
    if not are_ratios(target, 1, MOST_ROWS):
        raise BadTask(0, "target")
    if not is_row(columns, 0, MOST_COLUMNS):
        raise BadTask(0, "many")
    for index, column in enumerate(columns):
        if not are_ratios(column, len(target), len(target)):
            raise BadTask(index, "column")


def check_costs(columns, costs):
    """Raises BadTask unless there is one cost for each column."""
    if not are_ratios(costs, len(columns), len(columns)):
        raise BadTask(0, "costs")


def _solved_tableau(columns, target):
    """The tableau of amounts that solve the task, or of the least rest if none do."""
    tableau = Tableau(columns, target)
    # The columns of the start are what is missing to the target, so their sum is brought down.
    tableau.set_costs([0] * len(columns) + [1] * len(target))
    tableau.go_down()
    return tableau


def _against(tableau):
    """The numbers against a task that has a rest: their products with the columns are not below 0."""
    return Against(tuple([negative(number) for number in tableau.found_numbers(1, 1)]))


def solve_task(columns, target):
    check_task(columns, target)
    tableau = _solved_tableau(columns, target)
    return _against(tableau) if tableau.has_rest() else Solution(tableau.found_amounts())


def least_cost(columns, target, costs):
    check_task(columns, target)
    check_costs(columns, costs)
    return _least_of(columns, target, costs)


def least_sum(columns, target):
    check_task(columns, target)
    return _least_of(columns, target, [ONE] * len(columns))


def _least_of(columns, target, costs):
    tableau = _solved_tableau(columns, target)
    if tableau.has_rest():
        return _against(tableau)
    tableau.drop_start()
    scale = scale_for(costs)
    tableau.set_costs(whole_row(costs, scale) + [0] * len(target))
    endless = tableau.go_down()
    amounts = tableau.found_amounts()
    if endless is not None:
        return Endless(amounts, tableau.way_of(endless))
    return Least(product_of(costs, amounts), amounts, tableau.found_numbers(0, scale))


class Solution:
    """Amounts, one for each column, that solve a task."""

    def __init__(self, amounts):
        self.amounts = amounts

    def __eq__(self, other):
        return isinstance(other, Solution) and self.amounts == other.amounts


class Against:
    """Numbers, one for each row, that show that nothing solves a task."""

    def __init__(self, numbers):
        self.numbers = numbers

    def __eq__(self, other):
        return isinstance(other, Against) and self.numbers == other.numbers


class Least:
    """The least cost of a task, amounts that have it, and numbers that show that none cost less."""

    def __init__(self, value, amounts, numbers):
        self.value = value
        self.amounts = amounts
        self.numbers = numbers

    def __eq__(self, other):
        return (isinstance(other, Least) and self.value == other.value
                and self.amounts == other.amounts and self.numbers == other.numbers)


class Endless:
    """Amounts that solve a task, and a way on which they go on to solve it at ever less cost."""

    def __init__(self, amounts, way):
        self.amounts = amounts
        self.way = way

    def __eq__(self, other):
        return isinstance(other, Endless) and self.amounts == other.amounts and self.way == other.way
