"""The tasks that tell settings of slides which settle a rig, at one row of amounts or at several at once.

A task has rows for each coupling at each row of amounts, which is to be 0, and one row for each slide; with brakes
also one for each letter at each row of amounts, whose brake is to be used up. Its columns are: how far each slide
stands above its low, and how far below its high; with brakes also how far each coupling is above 0, and how far below.
"""
from stillarms.arms import join_rows, row_at, scale_row
from stillarms.couplings import couplings_by, pairs_of
from stillarms.ratios import ONE, ZERO, minus, plus


def couplings_at(parts, amounts, settings):
    """The couplings at any amounts and settings."""
    total = parts.constant
    for amount, part in zip(amounts, parts.by_loads):
        total = total.added(part.scaled(amount))
    for setting, part in zip(settings, parts.by_slides):
        total = total.added(part.scaled(setting))
    return total


def start_at(parts, slides, amounts):
    """The couplings at these amounts with each slide at its low."""
    return couplings_at(parts, amounts, [slide[-2] for slide in slides])


def settle_columns(parts, copies, braked):
    """The columns for so many rows of amounts at once."""
    letters = parts.constant.letters
    columns = _slide_columns(parts.by_slides, copies, letters * copies if braked else 0)
    if braked:
        for copy in range(copies):
            columns += _brake_columns(letters, copy, copies, len(parts.by_slides))
    return columns


def settle_target(starts, slides, brakes):
    """The target for the couplings with which each row of amounts starts; brakes may be None."""
    room = tuple([minus(slide[-1], slide[-2]) for slide in slides])
    rest = () if brakes is None else brakes * len(starts)
    return tuple([number for start in starts for number in start.opposite().numbers]) + room + rest


def settings_by(slides, amounts):
    """The settings for amounts that solve the task."""
    return tuple([plus(slide[-2], above) for slide, above in zip(slides, amounts)])


def papers_by(letters, numbers, slide_rows, copies, braked):
    """Numbers against the task, those of the couplings as a table and those of the brakes as shares, copy by copy."""
    many = len(pairs_of(letters))
    papers = []
    for copy in range(copies):
        start = many * copies + slide_rows + letters * copy
        shares = tuple(numbers[start:start + letters]) if braked else None
        papers.append((couplings_by(letters, numbers[many * copy:many * copy + many]), shares))
    return papers


def _unit(many, at):
    """A row of so many ratios, 1 at this index."""
    return tuple([ONE if index == at else ZERO for index in range(many)])


def _slide_columns(by_slides, copies, brake_rows):
    """How far the slides stand above their lows, then how far below their highs."""
    rest = (ZERO,) * brake_rows
    many = len(by_slides)
    above = [part.numbers * copies + _unit(many, index) + rest for index, part in enumerate(by_slides)]
    below = [(ZERO,) * len(part.numbers) * copies + _unit(many, index) + rest for index, part in enumerate(by_slides)]
    return above + below


def _brake_columns(letters, copy, copies, slide_rows):
    """How far the couplings of one copy are above 0, and how far below, each at the brakes of its letters.

    Both columns of a coupling with letter 0 together change no coupling; they use up what its brake has left.
    """
    pairs = pairs_of(letters)
    columns = []
    for index, (one, other) in enumerate(pairs):
        number = _unit(len(pairs) * copies, len(pairs) * copy + index) + (ZERO,) * slide_rows
        # Letter 0 has no brake.
        used = join_rows(row_at(letters, one, ONE), row_at(letters, other, ONE))[1:]
        brakes = (ZERO,) * (letters * copy) + used + (ZERO,) * (letters * (copies - copy - 1))
        columns.append(scale_row(number, (-1, 1)) + brakes)
        columns.append(number + brakes)
    return columns
