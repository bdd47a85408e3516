"""Guesses that fit facts, facts that clash, and what is sure of all guesses that fit."""
from stillarms.arms import scale_row
from stillarms.bounds import are_ratios
from stillarms.errors import BadGuess, BadNumber, Clashing
from stillarms.independent import independent_among
from stillarms.ratios import ONE, ZERO, is_whole, negative, product_of
from stillarms.rows import is_part, is_row, lots_among
from stillarms.tasks import Endless, Solution, least_cost, solve_task
from stillarms.unknown import check_facts, check_guess, checked_fact, does_hold, rows_by


def _joined(parts):
    """The rows of all parts."""
    return [row for part in parts for row in part]


def _all_rows(unknowns, facts):
    """The rows of all these facts, which are right."""
    return _joined([rows_by(unknowns, fact) for fact in facts])


def _deciding(rows):
    """The indices of the rows that are to be 0 and independent, and those of the strict rows.

    All rows together can be more than a task takes; those that depend on others add nothing.
    """
    equal = [index for index, (_, strict) in enumerate(rows) if not strict]
    independent = independent_among([rows[index][0] for index in equal])
    return [equal[at] for at in independent], [index for index, (_, strict) in enumerate(rows) if strict]


def _task_of(equal, least):
    """The task of numbers from 0 on by couples of a row and what its product with them is, or is at least."""
    rows = equal + least
    columns = [tuple([row[at] for row, _ in rows]) for at in range(len(rows[0][0]))]
    for index in range(len(least)):
        own = len(equal) + index
        # What the product is above its least.
        columns.append(tuple([(-1, 1) if at == own else ZERO for at in range(len(rows))]))
    return columns, tuple([goal for _, goal in rows])


def _told_of(many, rows, loose):
    """What a task tells of guesses of so many numbers for which the rows hold and the loose rows are 0 or above."""
    equal, strict = _deciding(rows)
    if strict == []:
        return Solution((ZERO,) * many)
    # A guess may be multiplied by any ratio above 0, so what is above 0 may be 1 or more.
    least = [(rows[index][0], ONE) for index in strict] + [(row, ZERO) for row in loose]
    columns, target = _task_of([(rows[index][0], ZERO) for index in equal], least)
    return solve_task(columns, target)


def _guess_for(unknowns, rows, loose):
    """A guess for which the rows hold and the loose rows are 0 or above, or None."""
    many = len(unknowns)
    told = _told_of(many, rows, loose)
    return told.amounts[:many] if isinstance(told, Solution) else None


def fit_facts(unknowns, facts):
    parts = [rows_by(unknowns, fact) for fact in check_facts(unknowns, facts)]
    rows = _joined(parts)
    told = _told_of(len(unknowns), rows, [])
    if isinstance(told, Solution):
        return Fits(told.amounts[:len(unknowns)])
    equal, strict = _deciding(rows)
    numbers = [ZERO for _ in rows]
    for index, number in zip(equal + strict, told.numbers):
        numbers[index] = negative(number)
    return Clash(_clashing_lots(unknowns, parts), tuple(numbers))


def _clashing_lots(unknowns, parts):
    """All least lots of facts with these rows that no guess fits."""
    found = []
    for lot in lots_among(len(parts), len(parts)):
        if any([is_part(part, lot) for part in found]):
            continue
        if _guess_for(unknowns, _joined([parts[index] for index in lot]), []) is None:
            found.append(lot)
    return tuple(found)


def fit_fault(unknowns, facts, told):
    parts = [rows_by(unknowns, fact) for fact in check_facts(unknowns, facts)]
    rows = _joined(parts)
    if _guess_for(unknowns, rows, []) is not None:
        if not isinstance(told, Fits):
            return "class"
        return None if _do_fit(unknowns, rows, told.guess) else "guess"
    if not isinstance(told, Clash):
        return "class"
    if not _are_lots(told.lots, _clashing_lots(unknowns, parts)):
        return "lots"
    return None if _do_clash(rows, told.numbers) else "numbers"


def _do_fit(unknowns, rows, guess):
    """Whether a thing is a guess for which the rows hold."""
    try:
        checked = check_guess(unknowns, guess)
    except BadGuess:
        return False
    return all([does_hold(row, strict, checked) for row, strict in rows])


def _are_lots(thing, right):
    if not is_row(thing, len(right), len(right)) or not all([is_row(lot) for lot in thing]):
        return False
    if not all([is_whole(number) for lot in thing for number in lot]):
        return False
    return [tuple(lot) for lot in thing] == list(right)


def _do_clash(rows, numbers):
    """Whether a thing is numbers, one for each row, that show that the rows do not hold for any guess."""
    if not are_ratios(numbers, len(rows), len(rows)):
        return False
    strict = [number for number, (_, is_strict) in zip(numbers, rows) if is_strict]
    if any([number[0] < 0 for number in strict]) or all([number == ZERO for number in strict]):
        return False
    many = len(rows[0][0])
    return all([product_of(numbers, [row[at] for row, _ in rows])[0] <= 0 for at in range(many)])


def _asked_rows(unknowns, facts, question):
    """The rows of the facts and those of the question."""
    facts = check_facts(unknowns, facts)
    question = checked_fact(unknowns, 0, question)
    rows = _all_rows(unknowns, facts)
    _check_fitting(unknowns, rows)
    return rows, list(rows_by(unknowns, question))


def _check_fitting(unknowns, rows):
    """Raises Clashing unless some guess fits the rows."""
    if _guess_for(unknowns, rows, []) is None:
        raise Clashing()


def is_sure(unknowns, facts, question):
    rows, asked = _asked_rows(unknowns, facts, question)
    return _sure_by(unknowns, rows, asked)


def _sure_by(unknowns, rows, asked):
    yes = _guess_for(unknowns, rows + asked, [])
    if yes is None:
        return Never()
    no = _guess_missing(unknowns, rows, asked)
    return Sure() if no is None else Both(yes, no)


def _guess_missing(unknowns, rows, asked):
    """A guess for which the rows hold and those that are asked do not all hold, or None."""
    for row, strict in asked:
        opposite = scale_row(row, (-1, 1))
        if strict:
            found = [_guess_for(unknowns, rows, [opposite])]
        else:
            found = [_guess_for(unknowns, rows + [(way, True)], []) for way in (row, opposite)]
        for guess in found:
            if guess is not None:
                return guess
    return None


def sure_fault(unknowns, facts, question, told):
    rows, asked = _asked_rows(unknowns, facts, question)
    right = _sure_by(unknowns, rows, asked)
    if isinstance(right, Sure):
        return None if isinstance(told, Sure) else "class"
    if isinstance(right, Never):
        return None if isinstance(told, Never) else "class"
    if not isinstance(told, Both):
        return "class"
    if not _do_fit(unknowns, rows + asked, told.yes):
        return "yes"
    return "no" if not _do_fit(unknowns, rows, told.no) or _do_fit(unknowns, asked, told.no) else None


def share_range(unknowns, facts, number, other):
    facts = check_facts(unknowns, facts)
    for thing in (number, other):
        if not is_whole(thing, 0, len(unknowns) - 1):
            raise BadNumber(thing)
    rows = _all_rows(unknowns, facts)
    _check_fitting(unknowns, rows)
    one = _unit_row(unknowns, number)
    its = _unit_row(unknowns, other)
    if _guess_for(unknowns, rows + [(its, True)], []) is None:
        return None
    # Multiplied fittingly, the other number is 1. As some guess fits, the strict rows may be 0 at the closed ends.
    equal, strict = _deciding(rows)
    columns, target = _task_of([(rows[index][0], ZERO) for index in equal] + [(its, ONE)],
                               [(rows[index][0], ZERO) for index in strict])
    rest = (ZERO,) * len(strict)
    least = least_cost(columns, target, one + rest)
    greatest = least_cost(columns, target, scale_row(one, (-1, 1)) + rest)
    return (least.value, None if isinstance(greatest, Endless) else negative(greatest.value))


def _unit_row(unknowns, at):
    return tuple([ONE if number == at else ZERO for number in range(len(unknowns))])


class Fits:
    """A guess for which all facts hold."""

    def __init__(self, guess):
        self.guess = guess

    def __eq__(self, other):
        return isinstance(other, Fits) and self.guess == other.guess


class Clash:
    """The least lots of facts that no guess fits, and numbers that show that no guess fits all facts."""

    def __init__(self, lots, numbers):
        self.lots = lots
        self.numbers = numbers

    def __eq__(self, other):
        return isinstance(other, Clash) and self.lots == other.lots and self.numbers == other.numbers


class Sure:
    """A question holds for all guesses that fit the facts."""

    def __eq__(self, other):
        return isinstance(other, Sure)


class Never:
    """A question holds for no guess that fits the facts."""

    def __eq__(self, other):
        return isinstance(other, Never)


class Both:
    """A guess that fits the facts and for which a question holds, and one for which it does not."""

    def __init__(self, yes, no):
        self.yes = yes
        self.no = no

    def __eq__(self, other):
        return isinstance(other, Both) and self.yes == other.yes and self.no == other.no
