"""Settings of slides that settle a rig at some amounts of its loads, and rules that do so at all amounts."""
from stillarms.arms import join_rows, scale_row
from stillarms.brakes import check_brakes
from stillarms.independent import independent_among
from stillarms.ratios import ONE, ZERO, minus, over, times
from stillarms.rows import lots_among
from stillarms.settling import papers_by, settings_by, settle_columns, settle_target, start_at
from stillarms.slides import check_amounts, check_loads, check_slides, corner_amounts, straight_parts
from stillarms.tasks import Against, solve_task


def check_some_brakes(arms, brakes):
    """Brakes as a tuple, or None for none."""
    return None if brakes is None else check_brakes(arms, brakes)


def settings_for(rig, loads, slides, amounts, *, brakes=None):
    loads = check_loads(rig, loads)
    slides = check_slides(rig, loads, slides)
    amounts = check_amounts(loads, amounts)
    brakes = check_some_brakes(rig.arms, brakes)
    return _settle(straight_parts(rig, loads, slides), slides, amounts, brakes)


def _settle(parts, slides, amounts, brakes):
    """Settings for these amounts, or what shows that there are none."""
    braked = brakes is not None
    target = settle_target([start_at(parts, slides, amounts)], slides, brakes)
    told = solve_task(settle_columns(parts, 1, braked), target)
    if isinstance(told, Against):
        return no_settings(parts, told.numbers, 1, braked)[0]
    return Settings(settings_by(slides, told.amounts))


def no_settings(parts, numbers, copies, braked):
    """What numbers against a task of so many rows of amounts show, one NoSetting for each of these."""
    papers = papers_by(parts.constant.letters, numbers, len(parts.by_slides), copies, braked)
    return tuple([NoSetting(table, shares) for table, shares in papers])


def rule_for(rig, loads, slides, *, brakes=None):
    loads = check_loads(rig, loads)
    slides = check_slides(rig, loads, slides)
    return _rule_with(rig, loads, slides, check_some_brakes(rig.arms, brakes))


def _rule_with(rig, loads, slides, brakes):
    """The rule for loads, slides and brakes that are right."""
    parts = straight_parts(rig, loads, slides)
    corners = tuple(corner_amounts(loads))
    rows = []
    for amounts in corners:
        told = _settle(parts, slides, amounts, brakes)
        if isinstance(told, NoSetting):
            return NoRule(amounts, told)
        rows.append(told.row)
    return Rule(loads, corners, tuple(rows))


def fewest_slides(rig, loads, slides, *, brakes=None):
    loads = check_loads(rig, loads)
    slides = check_slides(rig, loads, slides)
    brakes = check_some_brakes(rig.arms, brakes)
    found = []
    for lot in lots_among(len(slides), len(slides)):
        if found != [] and len(lot) > len(found[0]):
            break
        if isinstance(_rule_with(rig, loads, [slides[index] for index in lot], brakes), Rule):
            found.append(lot)
    return tuple(found)


def needed_slides(rig, loads):
    loads = check_loads(rig, loads)
    rows = rig.weight_rows()
    return len(independent_among([rows[weight][1:] for weight, low, high in loads if low != high]))


class Settings:
    """Settings, one for each slide, that settle a rig."""

    def __init__(self, row):
        self.row = row

    def __eq__(self, other):
        return isinstance(other, Settings) and self.row == other.row


class NoSetting:
    """A table of couplings and shares of the brakes that show that no settings settle a rig."""

    def __init__(self, table, shares):
        self.table = table
        self.shares = shares

    def __eq__(self, other):
        return isinstance(other, NoSetting) and self.table == other.table and self.shares == other.shares


class Rule:
    """Settings at all corner amounts of loads; called with any amounts it mixes them alike."""

    def __init__(self, loads, corners, rows):
        self.loads = loads
        self.corners = corners
        self.rows = rows

    def __eq__(self, other):
        return (isinstance(other, Rule) and self.loads == other.loads
                and self.corners == other.corners and self.rows == other.rows)

    def __call__(self, amounts):
        amounts = check_amounts(self.loads, amounts)
        total = (ZERO,) * len(self.rows[0])
        for corner, row in zip(self.corners, self.rows):
            total = join_rows(total, scale_row(row, _corner_share(self.loads, corner, amounts)))
        return total


def _corner_share(loads, corner, amounts):
    """How much of a corner is in the amounts."""
    share = ONE
    for (_, low, high), end, amount in zip(loads, corner, amounts):
        if low != high:
            away = minus(amount, low) if end == high else minus(high, amount)
            share = times(share, over(away, minus(high, low)))
    return share


class NoRule:
    """The first corner amounts at which a rig cannot be settled, and what shows it."""

    def __init__(self, amounts, why):
        self.amounts = amounts
        self.why = why

    def __eq__(self, other):
        return isinstance(other, NoRule) and self.amounts == other.amounts and self.why == other.why
