"""The fewest springs of a pool that still a rig, and how many springs a still rig has at least."""
from stillarms.couplings import weight_row
from stillarms.lean import all_lean
from stillarms.pools import check_pool, span_columns, still_target
from stillarms.ratios import ZERO


def still_lots(rig, pool):
    pool = check_pool(rig.arms, pool)
    columns = span_columns(rig.arms, pool)
    target = still_target(rig)
    yield from all_lean(columns, target)


def fewest_springs(rig, pool):
    for lot, _ in still_lots(rig, pool):
        return len(lot)
    return None


def bearing_letters(rig):
    return tuple([index + 1 for index, number in enumerate(weight_row(rig)) if number != ZERO])


def needed_count(rig):
    return len(bearing_letters(rig))
