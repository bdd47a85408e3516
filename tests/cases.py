"""What the tests share: a way to await errors, short ways to write ratios, sample arms and rigs."""
import random
import unittest
from fractions import Fraction

from stillarms.arms import Arms
from stillarms.directions import direction_by
from stillarms.ratios import ONE, ZERO
from stillarms.rigs import Rig

MAST = -1

# Things that are no whole numbers, no ratios, no places and no rows.
ODD_THINGS = (None, True, False, 1.0, "1", "", b"1", {}, {1: 2}, object())
NO_RATIOS = ODD_THINGS + (0, 3, (), (1,), (1, 2, 3), [1, 2], (2, 4), (1, 0), (1, -2), (0, 2), (0, -1),
                          (True, 1), (1, True), (1.0, 1), (1, 1.0), ("1", 1), (None, 1))


def q(text):
    """The ratio of a text such as "-1/2" or of a number, by way of Fraction."""
    number = Fraction(text)
    return (number.numerator, number.denominator)


def qs(text):
    """A tuple of ratios from texts with blanks between."""
    return tuple(q(part) for part in text.split())


def frac(ratio):
    return Fraction(*ratio)


def fracs(row):
    return [frac(ratio) for ratio in row]


def place(bar, mark):
    return (bar, q(mark))


def columns_of(*texts):
    """Columns of a task from texts, one for each column."""
    return tuple(qs(text) for text in texts)


def dot(one, other):
    """The product of two rows of ratios, as a Fraction."""
    assert len(one) == len(other)
    return sum((frac(left) * frac(right) for left, right in zip(one, other)), Fraction(0))


def mixed(columns, amounts, height):
    """The sum of amount times column, as Fractions."""
    return [dot(amounts, [column[index] for column in columns]) for index in range(height)]


def rank(rows):
    """How many of the rows of ratios are independent at most."""
    rows, found = [fracs(row) for row in rows], 0
    while rows:
        first = rows.pop()
        at = next((index for index, number in enumerate(first) if number != 0), None)
        if at is not None:
            found += 1
            rows = [[left - row[at] / first[at] * right for left, right in zip(row, first)] for row in rows]
    return found


class Case(unittest.TestCase):
    def fails(self, error, told, function, *args, **named):
        """The call raises just this error with just these attributes."""
        with self.assertRaises(error) as caught:
            function(*args, **named)
        self.assertIs(type(caught.exception), error)
        self.assertEqual(vars(caught.exception), told)
        for name, value in told.items():
            self.assertIs(type(getattr(caught.exception, name)), type(value))

    def same(self, one, other):
        """Equal, with tuples for tuples and ints for ints throughout."""
        self.assertEqual(repr(one), repr(other))

    def unlike_all(self, thing, others):
        """The thing is equal to none of the others, either way round."""
        for other in others:
            self.assertFalse(thing == other)
            self.assertTrue(thing != other)


# A lamp arm: a free bar on the mast, a second one on it.
def lamp():
    return Arms(((MAST, (0, 1), 1), (0, (2, 1), 2)))


# Four letters, a bar of letter 0, bars of one letter on unlike hosts, a bar that hangs on a bar that hangs on a bar.
def tree():
    return Arms(((MAST, (1, 2), 1), (0, (2, 1), 0), (1, (-1, 1), 2), (0, (3, 1), 3), (3, (1, 3), 2), (2, (5, 1), 4)))


def lamp_rig():
    return Rig(lamp(), (((1, (3, 1)), (2, 1)), ((0, (1, 1)), (1, 2))),
               (((MAST, (4, 1)), (0, (1, 1)), (1, 2)), ((MAST, (1, 1)), (1, (1, 1)), (3, 1))))


# One bar with a weight of 1 at 0:2 and a spring from mast:4 to 0:1 that balances it.
def balanced():
    arms = Arms(((MAST, (0, 1), 1),))
    return Rig(arms, (((0, (2, 1)), (1, 1)),), (((MAST, (4, 1)), (0, (1, 1)), (1, 2)),))


def free(letters):
    """Arms with one bar of each letter, all about the foot of the mast."""
    return Arms([(MAST, ZERO, letter) for letter in range(1, letters + 1)])


def rig_with(letters, **coupled):
    """A rig of which only the couplings of the named pairs, like c12, are not 0."""
    springs = []
    for name, number in coupled.items():
        one, other, strength = int(name[1]), int(name[2]), q(number)
        size = (abs(strength[0]), strength[1])
        first = (MAST if one == 0 else one - 1, ONE)
        second = (other - 1, ONE if strength[0] < 0 else q(-1))
        springs.append((first, second, size))
    return Rig(free(letters), (), springs)


class Draws:
    """Arms, rigs, poses and ratios that are drawn anew but always alike."""

    def __init__(self, seed):
        self.random = random.Random(seed)

    def ratio(self, low=-6, high=6):
        return q(Fraction(self.random.randint(low, high), self.random.choice((1, 1, 2, 3, 5))))

    def positive(self):
        return self.ratio(1, 6)

    def direction(self):
        return direction_by(self.random.choice((None, self.ratio(), self.ratio(), self.ratio())))

    def pose(self, arms):
        return tuple(self.direction() for _ in range(arms.letters))

    def arms(self, letters=None):
        letters = letters or self.random.randint(1, 4)
        names = list(range(1, letters + 1))
        names += [self.random.randint(0, letters) for _ in range(self.random.randint(0, 6 - letters))]
        self.random.shuffle(names)
        return Arms([(self.random.randint(MAST, number - 1), self.ratio(), name) for number, name in enumerate(names)])

    def place(self, arms):
        return (self.random.randint(MAST, len(arms) - 1), self.ratio())

    def rig(self, arms=None, weights=4, springs=4):
        arms = arms or self.arms()
        return Rig(arms, [(self.place(arms), self.positive()) for _ in range(self.random.randint(0, weights))],
                   [(self.place(arms), self.place(arms), self.positive())
                    for _ in range(self.random.randint(0, springs))])

    def pool(self, arms, most=6):
        return tuple((self.place(arms), self.place(arms)) for _ in range(self.random.randint(0, most)))

    def pooled(self, letters=None, most=6):
        """A rig on bars about the foot of the mast, and a pool that stills it in about half of all cases."""
        arms = free(letters or self.random.randint(1, 4))
        pool = tuple((self.small_place(arms), self.small_place(arms)) for _ in range(self.random.randint(0, most)))
        springs = []
        for one, (bar, mark) in pool:
            if self.random.random() < 0.5:
                # The span's couplings have their signs changed, unless both places are on one bar.
                springs.append((one, (bar, (-mark[0], mark[1])), q(self.random.randint(1, 3))))
        if self.random.random() < 0.3:
            springs.append((self.small_place(arms), self.small_place(arms), ONE))
        return Rig(arms, (), springs), pool

    def small_place(self, arms):
        return (self.random.randint(MAST, len(arms) - 1), q(self.random.choice((-2, -1, 1, 2))))
