"""The simplex method in whole numbers, which finds amounts from 0 on that solve equations at least cost."""
from math import lcm

from stillarms.ratios import ONE, ZERO, lowest_terms


def scale_for(row):
    """The least whole number that makes each ratio of a row whole."""
    scale = 1
    for _, bottom in row:
        scale = lcm(scale, bottom)
    return scale


def whole_row(row, scale):
    return [top * (scale // bottom) for top, bottom in row]


class Tableau:
    """Equations in whole numbers, each solved for one column, and a row of prices.

    Each row holds the real columns, one further column for each row of the task, and the right side, which is never
    below 0. In its own column a row has `bottom`, where all other rows have 0. The further columns are those of the
    start; they do not come back, but their prices tell the numbers that show what the least cost is.

    All entries are those of the rows in ratios times `bottom`, which is the determinant of the solved columns. So
    each division in a step leaves no rest, and the numbers stay as small as determinants are.
    """

    def __init__(self, columns, target):
        self.many = len(columns)
        self.height = len(target)
        self.scales = []
        self.rows = []
        for index, right in enumerate(target):
            entries = [column[index] for column in columns] + [right]
            # Each row is made whole, and its right side is brought to 0 or above.
            scale = scale_for(entries)
            if right[0] < 0:
                scale = -scale
            self.scales.append(scale)
            whole = whole_row(entries, scale)
            self.rows.append(whole[:-1] + [1 if other == index else 0 for other in range(self.height)] + whole[-1:])
        self.solved = [self.many + index for index in range(self.height)]
        self.bottom = 1
        self.prices = []

    def set_costs(self, costs):
        """Takes whole costs, one for each column but the right side, and finds the prices that they make."""
        prices = [cost * self.bottom for cost in costs] + [0]
        for row, column in zip(self.rows, self.solved):
            cost = costs[column]
            if cost != 0:
                prices = [price - cost * entry for price, entry in zip(prices, row)]
        self.prices = prices

    def go_down(self):
        """Goes to the least cost; returns None, or a column by which the cost falls without end."""
        stalled = False
        while True:
            column = self.entering(stalled)
            if column is None:
                return None
            index = self.leaving(column)
            if index is None:
                return column
            stalled = self.rows[index][-1] == 0
            self.pivot(index, column)

    def entering(self, stalled):
        """The column of the lowest price below 0, or None; after a step that changed nothing the first one below 0.

        With the first one, and the first row in `leaving`, no round of such steps leads back to its start.
        """
        best = None
        for column in range(self.many):
            price = self.prices[column]
            if price < 0 and (best is None or price < self.prices[best]):
                if stalled:
                    return column
                best = column
        return best

    def leaving(self, column):
        """The row that is used up first as the column's amount grows, the one of the least column of several."""
        best = None
        for index, row in enumerate(self.rows):
            if row[column] > 0 and (best is None or self.is_sooner(index, best, column)):
                best = index
        return best

    def is_sooner(self, index, best, column):
        row = self.rows[index]
        other = self.rows[best]
        mine = row[-1] * other[column]
        its = other[-1] * row[column]
        return mine < its or (mine == its and self.solved[index] < self.solved[best])

    def pivot(self, index, column):
        """Solves a row for another column, in which it is not 0."""
        row = self.rows[index]
        if row[column] < 0:
            row = [-entry for entry in row]
        rows = [self.cleared(other, row, column) for other in self.rows]
        rows[index] = row
        self.prices = self.cleared(self.prices, row, column)
        self.rows = rows
        self.solved[index] = column
        self.bottom = row[column]

    def cleared(self, other, row, column):
        """The other row with 0 in this column, as the row allows it."""
        worth = row[column]
        share = other[column]
        bottom = self.bottom
        if share == 0:
            return other if worth == bottom else [entry * worth // bottom for entry in other]
        return [(entry * worth - share * part) // bottom for entry, part in zip(other, row)]

    def drop_start(self):
        """Solves the rows of the start for real columns; a row that stays is 0 in all real columns."""
        for index in range(self.height):
            if self.solved[index] >= self.many:
                real = [column for column in range(self.many) if self.rows[index][column] != 0]
                if real != []:
                    self.pivot(index, real[0])

    def has_rest(self):
        """Whether the columns of the start are still needed."""
        return any([row[-1] != 0 and column >= self.many for row, column in zip(self.rows, self.solved)])

    def found_amounts(self):
        """The amounts of the real columns."""
        found = [ZERO for _ in range(self.many)]
        for row, column in zip(self.rows, self.solved):
            if column < self.many:
                found[column] = lowest_terms(row[-1], self.bottom)
        return tuple(found)

    def way_of(self, column):
        """What the real columns do, in sum 0 in each row, as the amount of this one grows by 1."""
        found = [ZERO for _ in range(self.many)]
        found[column] = ONE
        for row, other in zip(self.rows, self.solved):
            if other < self.many:
                found[other] = lowest_terms(-row[column], self.bottom)
        return tuple(found)

    def found_numbers(self, cost, scale):
        """One number a row of the task: its product with each real column is that column's cost less its price.

        The columns of the start have this whole cost; all costs were multiplied by the scale.
        """
        found = []
        for index, factor in enumerate(self.scales):
            own = cost * self.bottom - self.prices[self.many + index]
            found.append(lowest_terms(own * factor, self.bottom * scale))
        return tuple(found)
