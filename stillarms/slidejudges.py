"""Judges of settings and of rules."""
from stillarms.adjusters import NoRule, NoSetting, Rule, Settings
from stillarms.bounds import are_ratios, first_outside, is_from_zero
from stillarms.brakes import first_slip
from stillarms.couplings import Couplings, pair_product, pairs_of
from stillarms.ratios import ZERO, compare, is_ratio, is_whole, least_of, plus, product_of, size_of
from stillarms.rows import is_row
from stillarms.settling import couplings_at
from stillarms.slides import check_loads, check_slides, corner_amounts, corner_settings, straight_parts, stretches_of


def settings_fault(rig, loads, slides, amounts, told, *, brakes=None):
    parts = straight_parts(rig, loads, slides)
    if isinstance(told, Settings):
        return _row_fault(parts, slides, amounts, told.row, brakes)
    if isinstance(told, NoSetting):
        return _paper_fault(parts, slides, amounts, told, brakes)
    return "kind"


def _row_fault(parts, slides, amounts, row, brakes):
    """What is wrong with settings that are to settle a rig at these amounts."""
    if not are_ratios(row, len(slides), len(slides)):
        return "row"
    if first_outside(row, stretches_of(slides)) is not None:
        return "stretch"
    # What brakes of 0 hold is still.
    held = (ZERO,) * parts.constant.letters if brakes is None else brakes
    return None if first_slip(couplings_at(parts, amounts, row), held) is None else "push"


def _paper_fault(parts, slides, amounts, told, brakes):
    """What is wrong with a table and shares that are to show that nothing settles a rig at these amounts."""
    letters = parts.constant.letters
    if not isinstance(told.table, Couplings) or told.table.letters != letters:
        return "table"
    if not _are_shares(told.table, told.shares, brakes):
        return "shares"
    used = ZERO if brakes is None else product_of(told.shares, brakes)
    sums = [pair_product(told.table, couplings_at(parts, amounts, row)) for row in corner_settings(slides)]
    # The sum is straight in each setting, so its least is at a corner.
    return None if compare(least_of(sums), used) > 0 else "sum"


def _are_shares(table, shares, brakes):
    """Whether the shares are as many and as great as the table asks, or None without brakes."""
    if brakes is None:
        return shares is None
    if not are_ratios(shares, table.letters, table.letters) or not all([is_from_zero(share) for share in shares]):
        return False
    of_letters = (ZERO,) + tuple(shares)
    for (one, other), number in zip(pairs_of(table.letters), table.numbers):
        if compare(size_of(number), plus(of_letters[one], of_letters[other])) > 0:
            return False
    return True


def rule_fault(rig, loads, slides, told, *, brakes=None):
    loads = check_loads(rig, loads)
    slides = check_slides(rig, loads, slides)
    corners = tuple(corner_amounts(loads))
    if isinstance(told, Rule):
        return _rule_fault(rig, loads, slides, corners, told, brakes)
    if not isinstance(told, NoRule):
        return "kind"
    if told.amounts not in corners or not are_ratios(told.amounts, 0, None):
        return "amounts"
    if not isinstance(told.why, NoSetting):
        return "kind"
    return settings_fault(rig, loads, slides, told.amounts, told.why, brakes=brakes)


def _rule_fault(rig, loads, slides, corners, told, brakes):
    if told.loads != loads or not all([_has_numbers(load) for load in told.loads]):
        return "loads"
    if told.corners != corners or not all([are_ratios(amounts, 0, None) for amounts in told.corners]):
        return "corners"
    if not is_row(told.rows, len(corners), len(corners)):
        return "rows"
    parts = straight_parts(rig, loads, slides)
    for amounts, row in zip(corners, told.rows):
        fault = _row_fault(parts, slides, amounts, row, brakes)
        if fault is not None:
            return fault
    return None


def _has_numbers(load):
    """Whether the entries of what equals a load are numbers: True equals 1 and is none."""
    return is_whole(load[0]) and is_ratio(load[1]) and is_ratio(load[2])
