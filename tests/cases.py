"""What the tests share: a way to await errors, short ways to write ratios, sample arms and rigs."""
import random
import unittest
from fractions import Fraction

from stillarms.arms import Arms
from stillarms.directions import direction_by
from stillarms.rigs import Rig

MAST = -1

# Things that are no whole numbers, no ratios, no places and no rows.
ODD_THINGS = (None, True, False, 1.0, "1", "", b"1", {}, {1: 2}, object())
NO_RATIOS = ODD_THINGS + (0, 3, (), (1,), (1, 2, 3), [1, 2], (2, 4), (1, 0), (1, -2), (0, 2), (0, -1),
                          (True, 1), (1, True), (1.0, 1), (1, 1.0), ("1", 1), (None, 1))


def q(text):
    """The ratio of a text such as "-1/2" or of a number, by way of Fraction."""
    number = Fraction(text)
    return (number.numerator, number.denominator)


def qs(text):
    """A tuple of ratios from texts with blanks between."""
    return tuple(q(part) for part in text.split())


def frac(ratio):
    return Fraction(*ratio)


def fracs(row):
    return [frac(ratio) for ratio in row]


def place(bar, mark):
    return (bar, q(mark))


class Case(unittest.TestCase):
    def fails(self, error, told, function, *args, **named):
        """The call raises just this error with just these attributes."""
        with self.assertRaises(error) as caught:
            function(*args, **named)
        self.assertIs(type(caught.exception), error)
        self.assertEqual(vars(caught.exception), told)
        for name, value in told.items():
            self.assertIs(type(getattr(caught.exception, name)), type(value))

    def same(self, one, other):
        """Equal, with tuples for tuples and ints for ints throughout."""
        self.assertEqual(repr(one), repr(other))

    def unlike_all(self, thing, others):
        """The thing is equal to none of the others, either way round."""
        for other in others:
            self.assertFalse(thing == other)
            self.assertTrue(thing != other)


# A lamp arm: a free bar on the mast, a second one on it.
def lamp():
    return Arms(((MAST, (0, 1), 1), (0, (2, 1), 2)))


# Four letters, a bar of letter 0, bars of one letter on unlike hosts, a bar that hangs on a bar that hangs on a bar.
def tree():
    return Arms(((MAST, (1, 2), 1), (0, (2, 1), 0), (1, (-1, 1), 2), (0, (3, 1), 3), (3, (1, 3), 2), (2, (5, 1), 4)))


def lamp_rig():
    return Rig(lamp(), (((1, (3, 1)), (2, 1)), ((0, (1, 1)), (1, 2))),
               (((MAST, (4, 1)), (0, (1, 1)), (1, 2)), ((MAST, (1, 1)), (1, (1, 1)), (3, 1))))


# One bar with a weight of 1 at 0:2 and a spring from mast:4 to 0:1 that balances it.
def balanced():
    arms = Arms(((MAST, (0, 1), 1),))
    return Rig(arms, (((0, (2, 1)), (1, 1)),), (((MAST, (4, 1)), (0, (1, 1)), (1, 2)),))


class Draws:
    """Arms, rigs, poses and ratios that are drawn anew but always alike."""

    def __init__(self, seed):
        self.random = random.Random(seed)

    def ratio(self, low=-6, high=6):
        return q(Fraction(self.random.randint(low, high), self.random.choice((1, 1, 2, 3, 5))))

    def positive(self):
        return self.ratio(1, 6)

    def direction(self):
        return direction_by(self.random.choice((None, self.ratio(), self.ratio(), self.ratio())))

    def pose(self, arms):
        return tuple(self.direction() for _ in range(arms.letters))

    def arms(self, letters=None):
        letters = letters or self.random.randint(1, 4)
        names = list(range(1, letters + 1))
        names += [self.random.randint(0, letters) for _ in range(self.random.randint(0, 6 - letters))]
        self.random.shuffle(names)
        return Arms([(self.random.randint(MAST, number - 1), self.ratio(), name) for number, name in enumerate(names)])

    def place(self, arms):
        return (self.random.randint(MAST, len(arms) - 1), self.ratio())

    def rig(self, arms=None, weights=4, springs=4):
        arms = arms or self.arms()
        return Rig(arms, [(self.place(arms), self.positive()) for _ in range(self.random.randint(0, weights))],
                   [(self.place(arms), self.place(arms), self.positive())
                    for _ in range(self.random.randint(0, springs))])
