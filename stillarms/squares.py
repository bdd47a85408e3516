"""Grids, whether their values are ever below 0, and the sums of squares or the turns that show it."""
from stillarms.arms import is_nought, scale_row, take_row
from stillarms.bounds import are_ratios
from stillarms.errors import BadGrid
from stillarms.ratios import ONE, ZERO, is_positive, is_ratio, negative, over, product_of, sum_of, times
from stillarms.rows import is_row

MOST_ROWS = 5


def check_grid(grid):
    if not is_row(grid, 1, MOST_ROWS):
        raise BadGrid("many")
    many = len(grid)
    if not all([is_row(row, many, many) for row in grid]):
        raise BadGrid("row")
    if not all([is_ratio(entry) for row in grid for entry in row]):
        raise BadGrid("number")
    if not all([grid[one][other] == grid[other][one] for one in range(many) for other in range(one)]):
        raise BadGrid("even")
    return tuple([tuple(row) for row in grid])


def grid_value(grid, turns):
    return product_of(turns, [product_of(row, turns) for row in grid])


def split_grid(grid):
    grid = check_grid(grid)
    squares = []
    solved = []
    rest = grid
    at = _first_above(rest)
    while at is not None:
        row = scale_row(rest[at], over(ONE, rest[at][at]))
        squares.append((rest[at][at], row))
        solved.append(at)
        rest = [take_row(other, scale_row(row, other[at])) for other in rest]
        at = _first_above(rest)
    if len(squares) == len(grid):
        return Firm(tuple(squares))
    falling = _falling_in(rest)
    if falling is not None:
        return Falls(_without_squares(squares, solved, falling))
    flat = [ZERO if index in solved else ONE for index in range(len(grid))]
    return Even(tuple(squares), _without_squares(squares, solved, flat))


def _first_above(grid):
    """The first index at which the diagonal is above 0, or None."""
    for index, row in enumerate(grid):
        if row[index][0] > 0:
            return index
    return None


def _falling_in(rest):
    """Turns at which a grid without numbers above 0 on its diagonal has a value below 0, or None if it is all 0."""
    for one, row in enumerate(rest):
        for other, number in enumerate(row):
            if number != ZERO:
                turns = [ZERO for _ in rest]
                # Off the diagonal the number counts twice, and what the diagonal adds is not above 0.
                turns[other] = ONE if number[0] < 0 else negative(ONE)
                turns[one] = ONE
                return turns
    return None


def _without_squares(squares, solved, turns):
    """The turns with other numbers at the solved indices, with which each square is 0.

    A row of the squares is 1 at its own solved index and 0 at those solved before, so the last one comes first.
    """
    turns = list(turns)
    for (_, row), at in reversed(list(zip(squares, solved))):
        turns[at] = ZERO
        turns[at] = negative(product_of(row, turns))
    return tuple(turns)


def are_squares(thing, length):
    """Whether a thing is a row of couples of an amount above 0 and a row of so many ratios, not all 0."""
    return is_row(thing) and all([_is_square(entry, length) for entry in thing])


def _is_square(thing, length):
    if not is_row(thing, 2, 2) or not is_positive(thing[0]):
        return False
    return are_ratios(thing[1], length, length) and not is_nought(thing[1])


def squares_entry(squares, one, other):
    """What the grid whose value is the sum of these squares has in a row at an index."""
    return sum_of([times(amount, times(row[one], row[other])) for amount, row in squares])


def split_fault(grid, split):
    grid = check_grid(grid)
    right = split_grid(grid)
    if isinstance(right, Firm):
        if not isinstance(split, Firm):
            return "class"
        return None if _sum_to(grid, split.squares) and len(split.squares) == len(grid) else "squares"
    if isinstance(right, Falls):
        if not isinstance(split, Falls):
            return "class"
        return falls_fault(grid, split)
    if not isinstance(split, Even):
        return "class"
    if not _sum_to(grid, split.squares) or len(split.squares) >= len(grid):
        return "squares"
    if not are_ratios(split.turns, len(grid), len(grid)) or is_nought(split.turns):
        return "turns"
    return None if grid_value(grid, split.turns) == ZERO else "turns"


def falls_fault(grid, falls):
    """What is wrong with turns at which a grid is to have a value below 0."""
    if not are_ratios(falls.turns, len(grid), len(grid)):
        return "turns"
    return None if grid_value(grid, falls.turns)[0] < 0 else "turns"


def _sum_to(grid, squares):
    """Whether things are squares whose sum is the value of the grid."""
    if not are_squares(squares, len(grid)):
        return False
    return all([squares_entry(squares, one, other) == number
                for one, row in enumerate(grid) for other, number in enumerate(row)])


class Firm:
    """A grid with values above 0 but at turns that are all 0, and as many squares as it has rows."""

    def __init__(self, squares):
        self.squares = squares

    def __eq__(self, other):
        return isinstance(other, Firm) and self.squares == other.squares


class Even:
    """A grid without values below 0, fewer squares than it has rows, and turns, not all 0, at which it is 0."""

    def __init__(self, squares, turns):
        self.squares = squares
        self.turns = turns

    def __eq__(self, other):
        return isinstance(other, Even) and self.squares == other.squares and self.turns == other.turns


class Falls:
    """Turns at which a grid has a value below 0."""

    def __init__(self, turns):
        self.turns = turns

    def __eq__(self, other):
        return isinstance(other, Falls) and self.turns == other.turns
