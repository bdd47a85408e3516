"""Arms of bars on a mast, their places and the rows of these."""
from stillarms.errors import BadArms, BadOrder, BadPlace, BadSize, NoBar
from stillarms.ratios import ONE, ZERO, is_positive, is_ratio, is_whole, minus, plus, times
from stillarms.rows import is_row

MAST = -1
MOST_BARS = 6
MOST_LETTERS = 4


def is_place(arms, thing):
    if not is_row(thing, 2, 2):
        return False
    bar, mark = thing
    return is_whole(bar, MAST, len(arms.bars) - 1) and is_ratio(mark)


def check_place(arms, place):
    if not is_place(arms, place):
        raise BadPlace()
    return tuple(place)


def scale_row(row, ratio):
    return tuple([times(entry, ratio) for entry in row])


def join_rows(one, other):
    return tuple([plus(left, right) for left, right in zip(one, other)])


def take_row(one, other):
    return tuple([minus(left, right) for left, right in zip(one, other)])


def is_nought(row):
    return all([entry == ZERO for entry in row])


def grown_place(place, size):
    bar, mark = place
    return (bar, times(mark, size))


def shifted_place(place, step):
    """The place with the step added to its mark if it is on the mast."""
    bar, mark = place
    return (bar, plus(mark, step) if bar == MAST else mark)


def row_at(letters, letter, number):
    """The row of `letters` + 1 ratios that is this number at one letter and 0 elsewhere."""
    return tuple([number if other == letter else ZERO for other in range(letters + 1)])


def letter_row(arms, letter):
    return row_at(arms.letters, letter, ONE)


def check_order(letters, order):
    """Raises BadOrder unless the order is an arrangement of 1 to the count of letters."""
    if not is_row(order, letters, letters):
        raise BadOrder()
    if not all([is_whole(letter) for letter in order]) or sorted(order) != list(range(1, letters + 1)):
        raise BadOrder()


def _check_bars(bars):
    if not is_row(bars, 1, MOST_BARS):
        raise BadArms(0, "many")
    for index, bar in enumerate(bars):
        _check_bar(index, bar)


def _check_bar(index, bar):
    if not is_row(bar, 3, 3):
        raise BadArms(index, "bar")
    host, mark, letter = bar
    if not is_whole(host, MAST, index - 1):
        raise BadArms(index, "host")
    if not is_ratio(mark):
        raise BadArms(index, "mark")
    if not is_whole(letter, 0, MOST_LETTERS):
        raise BadArms(index, "letter")


def _count_letters(bars):
    used = [bar[2] for bar in bars]
    greatest = max(used)
    if greatest == 0 or not all([letter in used for letter in range(1, greatest + 1)]):
        raise BadArms(0, "gap")
    return greatest


class Arms:
    """Bars, each a row of a host, a mark on it and a letter."""

    def __init__(self, bars):
        _check_bars(bars)
        self.letters = _count_letters(bars)
        self.bars = tuple([tuple(bar) for bar in bars])

    def __len__(self):
        return len(self.bars)

    def __eq__(self, other):
        return isinstance(other, Arms) and self.bars == other.bars

    def row_of(self, place):
        bar, mark = check_place(self, place)
        if bar == MAST:
            return row_at(self.letters, 0, mark)
        letter = self.bars[bar][2]
        return join_rows(self.hinge_row(bar), row_at(self.letters, letter, mark))

    def hinge_row(self, number):
        if not is_whole(number, 0, len(self.bars) - 1):
            raise NoBar(number)
        host, mark, _ = self.bars[number]
        return self.row_of((host, mark))

    def difference_row(self, one, other):
        return take_row(self.row_of(one), self.row_of(other))

    def with_bar(self, host, mark, letter):
        return Arms(self.bars + ((host, mark, letter),))

    def grown(self, size):
        if not is_positive(size):
            raise BadSize()
        return Arms([grown_place((host, mark), size) + (letter,) for host, mark, letter in self.bars])

    def shifted(self, step):
        if not is_ratio(step):
            raise BadSize()
        return Arms([shifted_place((host, mark), step) + (letter,) for host, mark, letter in self.bars])

    def renamed(self, order):
        check_order(self.letters, order)
        names = (0,) + tuple(order)
        return Arms([(host, mark, names[letter]) for host, mark, letter in self.bars])
