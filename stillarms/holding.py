"""One setting for all loads, and the least push that settings leave."""
from stillarms.adjusters import Settings, check_some_brakes, no_settings
from stillarms.errors import BadLoads
from stillarms.ratios import ONE, ZERO, compare, negative
from stillarms.rows import is_row
from stillarms.settling import papers_by, settings_by, settle_columns, settle_target, start_at
from stillarms.slides import check_amounts, check_loads, check_slides, corner_amounts, straight_parts
from stillarms.tasks import Against, least_cost, solve_task


def fixed_settings(rig, loads, slides, *, brakes=None):
    if not is_row(loads, 0, 1):
        raise BadLoads(0, "many")
    loads = check_loads(rig, loads)
    slides = check_slides(rig, loads, slides)
    brakes = check_some_brakes(rig.arms, brakes)
    parts = straight_parts(rig, loads, slides)
    starts = [start_at(parts, slides, amounts) for amounts in corner_amounts(loads)]
    braked = brakes is not None
    told = solve_task(settle_columns(parts, len(starts), braked), settle_target(starts, slides, brakes))
    if isinstance(told, Against):
        return NoFixed(no_settings(parts, told.numbers, len(starts), braked))
    return Settings(settings_by(slides, told.amounts))


def least_push(rig, loads, slides, amounts):
    loads = check_loads(rig, loads)
    slides = check_slides(rig, loads, slides)
    amounts = check_amounts(loads, amounts)
    return _least_push_at(straight_parts(rig, loads, slides), slides, amounts)


def _least_push_at(parts, slides, amounts):
    """The least push; it is the brake that all letters have, and the cost of the task's last column."""
    letters = parts.constant.letters
    columns = settle_columns(parts, 1, True)
    brake = (ZERO,) * (len(columns[0]) - letters) + (negative(ONE),) * letters
    target = settle_target([start_at(parts, slides, amounts)], slides, (ZERO,) * letters)
    told = least_cost(columns + [brake], target, [ZERO] * len(columns) + [ONE])
    numbers = [negative(number) for number in told.numbers]
    table, shares = papers_by(letters, numbers, len(slides), 1, True)[0]
    return LeastPush(told.value, settings_by(slides, told.amounts), table, shares)


def worst_push(rig, loads, slides):
    loads = check_loads(rig, loads)
    slides = check_slides(rig, loads, slides)
    parts = straight_parts(rig, loads, slides)
    worst = None
    for amounts in corner_amounts(loads):
        least = _least_push_at(parts, slides, amounts)
        if worst is None or compare(least.value, worst.least.value) > 0:
            worst = WorstPush(amounts, least)
    return worst


class NoFixed:
    """One NoSetting for each corner of a load, which together show that no one setting serves all amounts."""

    def __init__(self, row):
        self.row = row

    def __eq__(self, other):
        return isinstance(other, NoFixed) and self.row == other.row


class LeastPush:
    """The least greatest push, settings that have it, and a table and shares that show that none have less."""

    def __init__(self, value, row, table, shares):
        self.value = value
        self.row = row
        self.table = table
        self.shares = shares

    def __eq__(self, other):
        return (isinstance(other, LeastPush) and self.value == other.value and self.row == other.row
                and self.table == other.table and self.shares == other.shares)


class WorstPush:
    """The first corner amounts of the greatest least push, and that least push."""

    def __init__(self, amounts, least):
        self.amounts = amounts
        self.least = least

    def __eq__(self, other):
        return isinstance(other, WorstPush) and self.amounts == other.amounts and self.least == other.least
