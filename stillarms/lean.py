"""The lean lots of columns: with each a task can be solved, and with no part of it."""
from stillarms.errors import BadTask
from stillarms.rows import is_part, lots_among
from stillarms.tasks import Solution, check_task, solve_task

MOST_LEAN = 10


def all_lean(columns, target):
    check_task(columns, target)
    if len(columns) > MOST_LEAN:
        raise BadTask(0, "many")
    found = []
    for lot in lots_among(len(columns), len(columns)):
        if any([is_part(part, lot) for part in found]):
            continue
        told = solve_task([columns[number] for number in lot], target)
        if isinstance(told, Solution):
            found.append(lot)
            yield (lot, told.amounts)
