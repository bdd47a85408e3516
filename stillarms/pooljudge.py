"""Rigs with the springs of a pool, and judges of what is told of pools."""
from stillarms.bounds import is_from_zero
from stillarms.errors import BadStrengths
from stillarms.pools import NoStrengths, check_pool, check_table, span_columns, still_target
from stillarms.ratios import ONE, ZERO
from stillarms.rigs import Rig
from stillarms.rows import first_wrong, is_row
from stillarms.taskjudge import against_fault, least_fault, solution_fault
from stillarms.tasks import Against, Least, Solution


def with_strengths(rig, pool, row):
    pool = check_pool(rig.arms, pool)
    index = first_unfit(row, len(pool))
    if index is not None:
        raise BadStrengths(index)
    springs = [(one, other, strength) for (one, other), strength in zip(pool, row) if strength != ZERO]
    return Rig(rig.arms, rig.weights, rig.springs + tuple(springs))


def first_unfit(row, many):
    """The first index at which a row has no ratio from 0 on, 0 if it is no row of so many things, or None."""
    if not is_row(row, many, many):
        return 0
    return first_wrong(row, many, is_from_zero)


def stills_fault(rig, pool, told):
    pool = check_pool(rig.arms, pool)
    columns = span_columns(rig.arms, pool)
    if isinstance(told, NoStrengths):
        return table_fault(columns, still_target(rig), told.table, {"column": "span", "target": "rig"})
    return row_fault(columns, still_target(rig), told.row, "still")


def wished_fault(arms, pool, couplings, told):
    pool = check_pool(arms, pool)
    check_table(arms, couplings)
    columns = span_columns(arms, pool)
    if isinstance(told, NoStrengths):
        return table_fault(columns, couplings.numbers, told.table, {"column": "span", "target": "wish"})
    return row_fault(columns, couplings.numbers, told.row, "made")


def least_strength_fault(rig, pool, told):
    pool = check_pool(rig.arms, pool)
    least = Least(told.value, told.row, told.table.numbers)
    fault = least_fault(span_columns(rig.arms, pool), still_target(rig), [ONE] * len(pool), least)
    # Tables of unlike numbers of letters have unlike numbers of pairs.
    words = {"sum": "still", "numbers": "letters", "column": "span", "target": "rig"}
    return words.get(fault, fault)


def row_fault(columns, target, row, word):
    """What is wrong with amounts that are to make a table; the word tells that they do not."""
    fault = solution_fault(columns, target, Solution(row))
    return word if fault == "sum" else fault


def table_fault(columns, target, table, words):
    """What is wrong with a table against amounts, "letters" or as these words say it."""
    fault = against_fault(columns, target, Against(table.numbers))
    # Tables of unlike numbers of letters have unlike numbers of pairs.
    if fault == "many":
        return "letters"
    return words.get(fault, fault)
