"""directions.py [2.1] to [2.3]."""
import unittest
from fractions import Fraction

from stillarms.directions import (DOWN, END, LEFT, RIGHT, UP, add_halves, check_direction, check_spot, cosine_between,
                                  direction_by, half_of, is_direction, is_spot, mirrored_direction, opposite_of,
                                  quarter_direction, root_of, sine_between, turned_by, turned_quarters)
from stillarms.errors import BadDirection, BadHalf, BadQuarters, BadSpot
from stillarms.ratios import ONE, ZERO, compare
from tests.cases import NO_RATIOS, ODD_THINGS, Case, Draws, frac, q, qs

SLANT = qs("3/5 4/5")
NO_SPOTS = ODD_THINGS + ((), (ONE,), (ONE, ZERO, ZERO), "ab", {0: ONE, 1: ONE}, (1, 0), (0, 1), ((0, 2), (1, 1)),
                         (ONE, 1), (ONE, True), ([1, 1], [0, 1]), (ONE, [0, 1]), (ONE, None), ((2, 4), ONE))
NO_DIRECTIONS = NO_SPOTS + (qs("0 0"), qs("1 1"), qs("1/2 1/2"), list(qs("3/5 3/5")), qs("2 0"))
NO_HALVES = tuple(thing for thing in NO_RATIOS if thing is not None)


class Spots(Case):
    def test_constants(self):
        self.same((UP, LEFT, DOWN, RIGHT, END), (((0, 1), (1, 1)), ((-1, 1), (0, 1)), ((0, 1), (-1, 1)),
                                                 ((1, 1), (0, 1)), None))

    def test_spots(self):
        for thing in (qs("0 0"), qs("7/3 -1"), list(qs("1 1")), UP, list(DOWN)):
            self.assertIs(is_spot(thing), True)
            self.same(check_spot(thing), tuple(thing))
        for thing in NO_SPOTS:
            self.assertIs(is_spot(thing), False)
            self.fails(BadSpot, {}, check_spot, thing)

    def test_directions(self):
        for thing in (UP, LEFT, DOWN, RIGHT, SLANT, list(SLANT), qs("-5/13 12/13"), list(UP)):
            self.assertIs(is_direction(thing), True)
            self.same(check_direction(thing), tuple(thing))
        for thing in NO_DIRECTIONS:
            self.assertIs(is_direction(thing), False)
            self.fails(BadDirection, {}, check_direction, thing)

    def test_a_handed_list_is_not_kept(self):
        handed = [ZERO, ONE]
        spot, direction = check_spot(handed), check_direction(handed)
        handed[0] = q(5)
        self.same((spot, direction), (UP, UP))

    def test_roots(self):
        for number in ("0", "1", "4", "9/4", "1/9", "25/49", str(10 ** 300)):
            root = root_of(q(number))
            self.assertEqual(frac(root) ** 2, Fraction(number))
            self.assertGreaterEqual(compare(root, ZERO), 0)
        self.same(root_of(q("9/4")), (3, 2))
        for number in ("2", "-1", "-4", "-4/9", "4/3", "3/4", "8/9", "8/5", "1/2", str(10 ** 300 + 1), "-9"):
            self.assertIsNone(root_of(q(number)))


class Halves(Case):
    def test_direction_by(self):
        self.same([direction_by(half) for half in (ZERO, ONE, q(-1), END)], [UP, LEFT, RIGHT, DOWN])
        self.same(direction_by(q("1/2")), qs("-4/5 3/5"))
        self.same(direction_by(q("-1/3")), qs("3/5 4/5"))
        self.same(direction_by(q(2)), qs("-4/5 -3/5"))

    def test_there_and_back(self):
        for half in qs("0 1 -1 1/2 -1/2 7/3 -22/7 100") + (END, (10 ** 299, 10 ** 300 - 1)):
            direction = direction_by(half)
            self.assertTrue(is_direction(direction))
            self.same(half_of(direction), half)
            self.same(half_of(list(direction)), half)
        self.assertIsNone(half_of(DOWN))
        self.same(half_of(SLANT), q("-1/3"))

    def test_formula(self):
        for half in qs("3/2 -5/7 4"):
            number = frac(half)
            x, y = direction_by(half)
            self.assertEqual(frac(x), -2 * number / (1 + number ** 2))
            self.assertEqual(frac(y), (1 - number ** 2) / (1 + number ** 2))

    def test_add_halves(self):
        self.same(add_halves(q("1/2"), q("1/3")), ONE)
        self.same(add_halves(q("1/2"), q("-1/3")), q("1/7"))
        self.assertIsNone(add_halves(q(2), q("1/2")))
        self.assertIsNone(add_halves(ONE, ONE))
        self.assertIsNone(add_halves(q("-2/3"), q("-3/2")))
        self.same(add_halves(ONE, q(-1)), ZERO)
        self.same(add_halves(q(2), q("-1/2")), q("3/4"))

    def test_add_the_half_turn(self):
        for half, told in (("2", "-1/2"), ("-1/2", "2"), ("3/7", "-7/3"), ("-1", "1")):
            self.same(add_halves(END, q(half)), q(told))
            self.same(add_halves(q(half), END), q(told))
        self.assertIsNone(add_halves(END, ZERO))
        self.assertIsNone(add_halves(ZERO, END))
        self.same(add_halves(END, END), ZERO)

    def test_bad_halves(self):
        for thing in NO_HALVES:
            self.fails(BadHalf, {}, direction_by, thing)
            self.fails(BadHalf, {}, add_halves, thing, ONE)
            self.fails(BadHalf, {}, add_halves, thing, None)
            self.fails(BadHalf, {}, add_halves, ONE, thing)
            self.fails(BadHalf, {}, add_halves, None, thing)
            self.fails(BadHalf, {}, turned_by, UP, thing)

    def test_bad_directions(self):
        for thing in NO_DIRECTIONS:
            for function in (half_of, opposite_of, mirrored_direction):
                self.fails(BadDirection, {}, function, thing)
            self.fails(BadDirection, {}, turned_by, thing, ZERO)
            self.fails(BadDirection, {}, turned_by, thing, 7)
            self.fails(BadDirection, {}, turned_quarters, thing, 1)
            self.fails(BadDirection, {}, turned_quarters, thing, None)
            for function in (cosine_between, sine_between):
                self.fails(BadDirection, {}, function, thing, UP)
                self.fails(BadDirection, {}, function, UP, thing)


class Turns(Case):
    def test_turned_by(self):
        self.same(turned_by(UP, ONE), LEFT)
        self.same(turned_by(list(LEFT), ONE), DOWN)
        self.same(turned_by(RIGHT, ONE), UP)
        self.same(turned_by(SLANT, END), qs("-3/5 -4/5"))
        self.same(turned_by(SLANT, ZERO), SLANT)
        self.same(turned_by(SLANT, q("1/2")), qs("-7/25 24/25"))
        self.same(turned_by(UP, q("7/5")), direction_by(q("7/5")))

    def test_turns_add_up(self):
        draws = Draws("turns")
        halves = [None] + [draws.ratio() for _ in range(9)]
        for one in halves:
            for other in halves:
                self.same(turned_by(direction_by(one), other), direction_by(add_halves(one, other)))

    def test_quarters(self):
        self.same([quarter_direction(number) for number in range(-2, 6)],
                  [DOWN, RIGHT, UP, LEFT, DOWN, RIGHT, UP, LEFT])
        self.same([turned_quarters(SLANT, number) for number in range(4)],
                  [SLANT, qs("-4/5 3/5"), qs("-3/5 -4/5"), qs("4/5 -3/5")])
        self.same(turned_quarters(list(SLANT), -1), qs("4/5 -3/5"))
        self.same(turned_quarters(UP, 10 ** 30 + 1), LEFT)
        self.same(quarter_direction(-10 ** 30 - 1), RIGHT)
        for thing in ODD_THINGS + ((1, 1), [1]):
            self.fails(BadQuarters, {}, turned_quarters, UP, thing)
            self.fails(BadQuarters, {}, quarter_direction, thing)

    def test_opposite_and_mirrored(self):
        self.same(opposite_of(SLANT), qs("-3/5 -4/5"))
        self.same(opposite_of(list(LEFT)), RIGHT)
        self.same(mirrored_direction(SLANT), qs("-3/5 4/5"))
        self.same(mirrored_direction(list(UP)), UP)
        self.same(mirrored_direction(LEFT), RIGHT)

    def test_cosines_and_sines(self):
        self.same(cosine_between(UP, SLANT), q("4/5"))
        self.same(sine_between(UP, SLANT), q("-3/5"))
        self.same(sine_between(UP, LEFT), ONE)
        self.same(sine_between(list(LEFT), list(UP)), q(-1))
        self.same(cosine_between(list(SLANT), SLANT), ONE)
        self.same(cosine_between(SLANT, opposite_of(SLANT)), q(-1))
        self.same(sine_between(SLANT, turned_by(SLANT, q("1/2"))), q("4/5"))
        self.same(cosine_between(SLANT, turned_by(SLANT, q("1/2"))), q("3/5"))


if __name__ == "__main__":
    unittest.main()
