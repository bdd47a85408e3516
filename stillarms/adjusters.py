"""Settings of slides that settle a rig at some amounts of its loads, and rules that do so at all amounts."""
from stillarms.arms import is_nought, join_rows, row_at, scale_row, take_row
from stillarms.brakes import check_brakes
from stillarms.couplings import couplings_by, pairs_of
from stillarms.ratios import ONE, ZERO, minus, over, plus, times
from stillarms.rows import lots_among
from stillarms.slides import check_amounts, check_loads, check_slides, corner_amounts, straight_parts
from stillarms.tasks import Against, solve_task


def check_some_brakes(arms, brakes):
    """Brakes as a tuple, or None for none."""
    return None if brakes is None else check_brakes(arms, brakes)


def settings_for(rig, loads, slides, amounts, *, brakes=None):
    loads = check_loads(rig, loads)
    slides = check_slides(rig, loads, slides)
    amounts = check_amounts(loads, amounts)
    brakes = check_some_brakes(rig.arms, brakes)
    return _settle(straight_parts(rig, loads, slides), slides, amounts, brakes)


def _settle(parts, slides, amounts, brakes):
    """Settings for these amounts, or what shows that there are none.

    The task has a row for each coupling, which is to be 0, and one for each slide; with brakes also one for each
    letter, whose brake is to be used up. Its columns are: how far each slide stands above its low, and how far below
    its high; with brakes also how far each coupling is above 0, and how far below.
    """
    letters = parts.constant.letters
    start = parts.constant
    for amount, part in zip(amounts, parts.by_loads):
        start = start.added(part.scaled(amount))
    for slide, part in zip(slides, parts.by_slides):
        start = start.added(part.scaled(slide[-2]))
    brakes_row = () if brakes is None else brakes
    columns = _slide_columns(parts.by_slides, len(brakes_row))
    if brakes is not None:
        columns += _brake_columns(letters, len(slides))
    room = tuple([minus(slide[-1], slide[-2]) for slide in slides])
    told = solve_task(columns, start.opposite().numbers + room + brakes_row)
    if isinstance(told, Against):
        return _no_setting(letters, told.numbers, len(slides), brakes)
    return Settings(tuple([plus(slide[-2], above) for slide, above in zip(slides, told.amounts)]))


def _unit(many, at):
    """A row of so many ratios, 1 at this index."""
    return tuple([ONE if index == at else ZERO for index in range(many)])


def _slide_columns(by_slides, brake_rows):
    """How far the slides stand above their lows, then how far below their highs."""
    rest = (ZERO,) * brake_rows
    many = len(by_slides)
    above = [part.numbers + _unit(many, index) + rest for index, part in enumerate(by_slides)]
    below = [(ZERO,) * len(part.numbers) + _unit(many, index) + rest for index, part in enumerate(by_slides)]
    return above + below


def _brake_columns(letters, slide_rows):
    """How far the couplings are above 0, and how far below, each at the brakes of its letters.

    Both columns of a coupling with letter 0 together change no coupling; they use up what its brake has left.
    """
    pairs = pairs_of(letters)
    middle = (ZERO,) * slide_rows
    columns = []
    for index, (one, other) in enumerate(pairs):
        # Letter 0 has no brake.
        used = join_rows(row_at(letters, one, ONE), row_at(letters, other, ONE))[1:]
        columns.append(scale_row(_unit(len(pairs), index), (-1, 1)) + middle + used)
        columns.append(_unit(len(pairs), index) + middle + used)
    return columns


def _no_setting(letters, numbers, slide_rows, brakes):
    """The numbers against the task, those of the couplings as a table and those of the brakes as shares."""
    many = len(pairs_of(letters))
    shares = None if brakes is None else numbers[many + slide_rows:]
    return NoSetting(couplings_by(letters, numbers[:many]), shares)


def rule_for(rig, loads, slides, *, brakes=None):
    loads = check_loads(rig, loads)
    slides = check_slides(rig, loads, slides)
    return _rule_with(rig, loads, slides, check_some_brakes(rig.arms, brakes))


def _rule_with(rig, loads, slides, brakes):
    """The rule for loads, slides and brakes that are right."""
    parts = straight_parts(rig, loads, slides)
    corners = tuple(corner_amounts(loads))
    rows = []
    for amounts in corners:
        told = _settle(parts, slides, amounts, brakes)
        if isinstance(told, NoSetting):
            return NoRule(amounts, told)
        rows.append(told.row)
    return Rule(loads, corners, tuple(rows))


def fewest_slides(rig, loads, slides, *, brakes=None):
    loads = check_loads(rig, loads)
    slides = check_slides(rig, loads, slides)
    brakes = check_some_brakes(rig.arms, brakes)
    found = []
    for lot in lots_among(len(slides), len(slides)):
        if found != [] and len(lot) > len(found[0]):
            break
        if isinstance(_rule_with(rig, loads, [slides[index] for index in lot], brakes), Rule):
            found.append(lot)
    return tuple(found)


def needed_slides(rig, loads):
    loads = check_loads(rig, loads)
    rows = rig.weight_rows()
    return _rank_of([rows[weight][1:] for weight, low, high in loads if low != high])


def _rank_of(rows):
    """How many of the rows are independent at most."""
    rank = 0
    while rows != []:
        first = rows[0]
        rows = rows[1:]
        if not is_nought(first):
            at = [number != ZERO for number in first].index(True)
            rows = [take_row(row, scale_row(first, over(row[at], first[at]))) for row in rows]
            rank += 1
    return rank


class Settings:
    """Settings, one for each slide, that settle a rig."""

    def __init__(self, row):
        self.row = row

    def __eq__(self, other):
        return isinstance(other, Settings) and self.row == other.row


class NoSetting:
    """A table of couplings and shares of the brakes that show that no settings settle a rig."""

    def __init__(self, table, shares):
        self.table = table
        self.shares = shares

    def __eq__(self, other):
        return isinstance(other, NoSetting) and self.table == other.table and self.shares == other.shares


class Rule:
    """Settings at all corner amounts of loads; called with any amounts it mixes them alike."""

    def __init__(self, loads, corners, rows):
        self.loads = loads
        self.corners = corners
        self.rows = rows

    def __eq__(self, other):
        return (isinstance(other, Rule) and self.loads == other.loads
                and self.corners == other.corners and self.rows == other.rows)

    def __call__(self, amounts):
        amounts = check_amounts(self.loads, amounts)
        total = (ZERO,) * len(self.rows[0])
        for corner, row in zip(self.corners, self.rows):
            total = join_rows(total, scale_row(row, _corner_share(self.loads, corner, amounts)))
        return total


def _corner_share(loads, corner, amounts):
    """How much of a corner is in the amounts."""
    share = ONE
    for (_, low, high), end, amount in zip(loads, corner, amounts):
        if low != high:
            away = minus(amount, low) if end == high else minus(high, amount)
            share = times(share, over(away, minus(high, low)))
    return share


class NoRule:
    """The first corner amounts at which a rig cannot be settled, and what shows it."""

    def __init__(self, amounts, why):
        self.amounts = amounts
        self.why = why

    def __eq__(self, other):
        return isinstance(other, NoRule) and self.amounts == other.amounts and self.why == other.why
