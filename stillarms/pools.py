"""Pools of springs that can still a rig, or have wished couplings, and the least strength that it takes."""
from stillarms.arms import check_place, is_place
from stillarms.couplings import couplings_by, couplings_of, span_couplings
from stillarms.errors import BadPool, OtherLetters
from stillarms.rows import is_row
from stillarms.tasks import Against, least_sum, solve_task

MOST_SPANS = 8


def _is_span(arms, thing):
    return is_row(thing, 2, 2) and is_place(arms, thing[0]) and is_place(arms, thing[1])


def check_pool(arms, pool):
    if not is_row(pool, 0, MOST_SPANS):
        raise BadPool(0, "many")
    for index, span in enumerate(pool):
        if not _is_span(arms, span):
            raise BadPool(index, "span")
    return tuple([(check_place(arms, one), check_place(arms, other)) for one, other in pool])


def span_columns(arms, pool):
    """The couplings of each span, as columns of a task."""
    return [span_couplings(arms, one, other).numbers for one, other in pool]


def still_target(rig):
    """The couplings that still a rig when they are added to its own, as the target of a task."""
    return couplings_of(rig).opposite().numbers


def stills(rig, pool):
    pool = check_pool(rig.arms, pool)
    return _told_strengths(rig.arms, solve_task(span_columns(rig.arms, pool), still_target(rig)))


def check_table(arms, couplings):
    """Raises OtherLetters unless the table is one of as many letters as the arms have."""
    if couplings.letters != arms.letters:
        raise OtherLetters()


def wished(arms, pool, couplings):
    pool = check_pool(arms, pool)
    check_table(arms, couplings)
    return _told_strengths(arms, solve_task(span_columns(arms, pool), couplings.numbers))


def _told_strengths(arms, told):
    """What a task with spans as columns tells, said of springs."""
    if isinstance(told, Against):
        return NoStrengths(couplings_by(arms.letters, told.numbers))
    return Strengths(told.amounts)


def least_strength(rig, pool):
    pool = check_pool(rig.arms, pool)
    told = least_sum(span_columns(rig.arms, pool), still_target(rig))
    table = couplings_by(rig.arms.letters, told.numbers)
    if isinstance(told, Against):
        return NoStrengths(table)
    return LeastStrengths(told.value, told.amounts, table)


class Strengths:
    """Strengths from 0 on, one for each span of a pool."""

    def __init__(self, row):
        self.row = row

    def __eq__(self, other):
        return isinstance(other, Strengths) and self.row == other.row


class NoStrengths:
    """A table of couplings that shows that no strengths will do."""

    def __init__(self, table):
        self.table = table

    def __eq__(self, other):
        return isinstance(other, NoStrengths) and self.table == other.table


class LeastStrengths:
    """The least sum of strengths, a row that has it, and a table that shows that none has less."""

    def __init__(self, value, row, table):
        self.value = value
        self.row = row
        self.table = table

    def __eq__(self, other):
        return (isinstance(other, LeastStrengths) and self.value == other.value
                and self.row == other.row and self.table == other.table)
