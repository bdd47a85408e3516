"""Judges of what is told of tasks."""
from stillarms.arms import is_nought
from stillarms.ratios import compare, product_of
from stillarms.tasks import check_costs, check_task


def _mixed(columns, height, amounts):
    """The sum of amount times column, row by row."""
    return tuple([product_of(amounts, [column[index] for column in columns]) for index in range(height)])


def solution_fault(columns, target, solution):
    check_task(columns, target)
    amounts = solution.amounts
    if len(amounts) != len(columns):
        return "many"
    if any([amount[0] < 0 for amount in amounts]):
        return "below"
    return "sum" if _mixed(columns, len(target), amounts) != tuple(target) else None


def against_fault(columns, target, against):
    check_task(columns, target)
    if len(against.numbers) != len(target):
        return "many"
    if any([product_of(against.numbers, column)[0] < 0 for column in columns]):
        return "column"
    return "target" if product_of(against.numbers, target)[0] >= 0 else None


def least_fault(columns, target, costs, least):
    check_task(columns, target)
    check_costs(columns, costs)
    fault = solution_fault(columns, target, least)
    if fault is not None:
        return fault
    if product_of(least.amounts, costs) != least.value:
        return "value"
    if len(least.numbers) != len(target):
        return "numbers"
    products = [product_of(least.numbers, column) for column in columns]
    if any([compare(product, cost) > 0 for product, cost in zip(products, costs)]):
        return "column"
    return "target" if product_of(least.numbers, target) != least.value else None


def endless_fault(columns, target, costs, endless):
    check_task(columns, target)
    check_costs(columns, costs)
    fault = solution_fault(columns, target, endless)
    if fault is not None:
        return fault
    way = endless.way
    if len(way) != len(columns) or any([entry[0] < 0 for entry in way]):
        return "way"
    if not is_nought(_mixed(columns, len(target), way)):
        return "turn"
    return "cost" if product_of(way, costs)[0] >= 0 else None
