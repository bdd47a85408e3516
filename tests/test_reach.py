"""reach.py [3.6] to [3.9]."""
import itertools
import unittest
from fractions import Fraction

from stillarms.arms import Arms
from stillarms.directions import DOWN, LEFT, RIGHT, UP
from stillarms.errors import BadLength, BadPlace, BadSpot
from stillarms.poses import check_pose, flat_poses, height_at, place_at, square_between
from stillarms.ratios import ONE, ZERO
from stillarms.reach import (Belt, below_pose, belt_of, beyond_pose, can_come_to, can_meet, farthest_pose,
                             greatest_distance, height_poses, heights_of, least_distance, nearest_pose)
from tests.cases import MAST, NO_RATIOS, ODD_THINGS, Case, Draws, frac, lamp, q, qs, tree

A, B, FOOT = (0, ONE), (1, ONE), (MAST, ZERO)
NO_PLACES = ODD_THINGS + ((), (0,), (2, ONE), (-2, ONE), (0, 1), (True, ONE), (0, ONE, ONE))


def chain(*lengths):
    """Arms and their end place: a chain of free bars of these lengths from the foot of the mast."""
    bars = [(MAST, ZERO, 1)]
    for number, length in enumerate(lengths[:-1]):
        bars.append((number, q(length), number + 2))
    return Arms(bars), (len(bars) - 1, q(lengths[-1]))


def flat_squares(arms, one, other):
    return [frac(square_between(arms, pose, one, other)) for pose in flat_poses(arms)]


class ReachCase(Case):
    def flat(self, arms, pose):
        self.same(pose, check_pose(arms, pose))
        self.assertTrue(all(way in (UP, DOWN) for way in pose))

    def places_are_asked(self, function, many, *more):
        for thing in NO_PLACES:
            for at in range(many):
                places = [A, B][:many]
                places[at] = thing
                self.fails(BadPlace, {}, function, lamp(), *places, *more)


class Distances(ReachCase):
    def check(self, arms, one, other, greatest, least):
        self.same(greatest_distance(arms, one, other), q(greatest))
        self.same(least_distance(arms, one, other), q(least))
        self.assertIs(can_meet(arms, one, other), q(least) == ZERO)
        far = farthest_pose(arms, one, other)
        self.flat(arms, far)
        self.assertEqual(frac(square_between(arms, far, one, other)), Fraction(greatest) ** 2)
        near = nearest_pose(arms, one, other)
        if near is None:
            self.assertEqual(Fraction(least), 0)
            self.assertNotIn(0, flat_squares(arms, one, other))
        else:
            self.flat(arms, near)
            self.assertEqual(frac(square_between(arms, near, one, other)), Fraction(least) ** 2)

    def test_one_number_longest(self):
        # As long as all others together, a little shorter, a little longer.
        self.check(*chain(5, 3, 2), FOOT, 10, 0)
        self.check(*chain(5, 3, "21/10"), FOOT, "101/10", 0)
        self.check(*chain(5, 3, "19/10"), FOOT, "99/10", "1/10")
        self.check(*chain(1, -7, 2), FOOT, 10, 4)
        self.check(*chain(1, 2, -7), FOOT, 10, 4)
        self.check(*chain(-4), FOOT, 4, 4)

    def test_with_the_mast(self):
        arms, end = chain(2, 3)
        self.check(arms, end, (MAST, q(5)), 10, 0)
        self.check(arms, end, (MAST, q(-9)), 14, 4)
        self.check(arms, (MAST, q(-9)), end, 14, 4)
        self.check(arms, (MAST, ONE), (MAST, q(5)), 4, 4)
        self.check(arms, end, end, 0, 0)
        self.check(arms, A, (0, q(-1)), 2, 2)

    def test_nearest_flat_pose_or_none(self):
        arms, end = chain(3, 4, 5)
        self.assertIsNone(nearest_pose(arms, end, FOOT))
        self.check(arms, end, FOOT, 12, 0)
        arms, end = chain(3, 4, 7)
        self.assertIsNotNone(nearest_pose(arms, end, FOOT))
        self.check(arms, end, FOOT, 14, 0)
        arms, end = chain(3, 4, 5, 6)
        self.assertIsNotNone(nearest_pose(arms, end, FOOT))
        self.check(arms, end, FOOT, 18, 0)
        arms, end = chain(1, 1)
        self.check(arms, end, FOOT, 2, 0)
        self.check(arms, end, (MAST, ONE), 3, 0)
        self.assertIsNone(nearest_pose(arms, end, (MAST, ONE)))

    def test_by_all_flat_poses(self):
        draws = Draws("distances")
        for _ in range(80):
            arms = draws.arms()
            one, other = draws.place(arms), draws.place(arms)
            sizes = [abs(frac(number)) for number in arms.difference_row(one, other)]
            self.check(arms, one, other, sum(sizes), max(0, 2 * max(sizes) - sum(sizes)))
            self.assertEqual(max(flat_squares(arms, one, other)), sum(sizes) ** 2)
            for _ in range(3):
                square = frac(square_between(arms, draws.pose(arms), one, other))
                self.assertLessEqual(frac(least_distance(arms, one, other)) ** 2, square)
                self.assertLessEqual(square, frac(greatest_distance(arms, one, other)) ** 2)

    def test_bad_places(self):
        for function in (greatest_distance, least_distance, can_meet, farthest_pose, nearest_pose, below_pose):
            self.places_are_asked(function, 2)


class Limits(ReachCase):
    def test_beyond(self):
        arms, end = chain(2, 3)
        for length in ("5", "26/5", "100"):
            self.assertIsNone(beyond_pose(arms, end, FOOT, q(length)))
        for length in ("0", "1", "24/5"):
            for one, other in ((end, FOOT), (FOOT, end)):
                pose = beyond_pose(arms, one, other, q(length))
                self.same(pose, check_pose(arms, pose))
                self.assertGreater(frac(square_between(arms, pose, one, other)), Fraction(length) ** 2)
        self.assertIsNone(beyond_pose(arms, end, end, ZERO))
        self.assertIsNotNone(beyond_pose(arms, (MAST, q(-1)), FOOT, ZERO))

    def test_bad_lengths(self):
        for length in NO_RATIOS + qs("-1 -1/2"):
            self.fails(BadLength, {}, beyond_pose, lamp(), A, B, length)
        self.places_are_asked(beyond_pose, 2, None)
        self.places_are_asked(beyond_pose, 2, ONE)

    def test_below(self):
        arms, end = chain(2, 3)
        for mark, always in (("5", True), ("6", True), ("49/10", False), ("-7", False), ("0", False)):
            place = (MAST, q(mark))
            pose = below_pose(arms, place, end)
            self.assertEqual(pose is None, always)
            if pose is not None:
                self.same(pose, check_pose(arms, pose))
                self.assertLess(frac(height_at(arms, pose, place)), frac(height_at(arms, pose, end)))
        for mark, always in (("-5", True), ("-6", True), ("-49/10", False), ("5", False)):
            pose = below_pose(arms, end, (MAST, q(mark)))
            self.assertEqual(pose is None, always)
            if pose is not None:
                self.assertLess(frac(height_at(arms, pose, end)), Fraction(mark))
        self.assertIsNone(below_pose(arms, A, A))
        self.assertIsNone(below_pose(arms, (0, q(2)), (1, ZERO)))
        self.assertIsNotNone(below_pose(arms, A, (0, ZERO)))
        self.assertIsNotNone(below_pose(arms, (0, ZERO), A))

    def test_below_by_all_flat_poses(self):
        draws = Draws("below")
        for _ in range(80):
            arms = draws.arms()
            one, other = draws.place(arms), draws.place(arms)
            lower = [frac(height_at(arms, pose, one)) < frac(height_at(arms, pose, other)) for pose in flat_poses(arms)]
            pose = below_pose(arms, one, other)
            self.assertEqual(pose is not None, any(lower))
            if pose is not None:
                self.assertLess(frac(height_at(arms, pose, one)), frac(height_at(arms, pose, other)))


class Heights(ReachCase):
    def test_heights(self):
        self.same(heights_of(tree(), (5, ONE)), qs("-17/2 15/2"))
        self.same(heights_of(tree(), (1, q(4))), qs("5/2 13/2"))
        self.same(heights_of(lamp(), (MAST, q(-3))), qs("-3 -3"))
        self.same(heights_of(lamp(), [1, q(-3)]), qs("-5 5"))

    def test_poses(self):
        # The row of 4:2 is (1/2, 3, 2, 1/3, 0), that of 1:4 is (9/2, 2, 0, 0, 0).
        self.same(height_poses(tree(), (4, q(2))), ((DOWN, DOWN, DOWN, UP), (UP, UP, UP, UP)))
        self.same(height_poses(tree(), (1, q(4))), ((DOWN, UP, UP, UP), (UP, UP, UP, UP)))
        self.same(height_poses(lamp(), (1, q(-3))), ((DOWN, UP), (UP, DOWN)))
        self.same(height_poses(lamp(), (MAST, q(5))), ((UP, UP), (UP, UP)))

    def test_heights_are_reached(self):
        draws = Draws("heights")
        for _ in range(60):
            arms = draws.arms()
            place = draws.place(arms)
            least, greatest = heights_of(arms, place)
            low, high = height_poses(arms, place)
            self.flat(arms, low)
            self.flat(arms, high)
            self.same((height_at(arms, low, place), height_at(arms, high, place)), (least, greatest))
            for pose in [draws.pose(arms) for _ in range(4)]:
                self.assertLessEqual(frac(least), frac(height_at(arms, pose, place)))
                self.assertGreaterEqual(frac(greatest), frac(height_at(arms, pose, place)))

    def test_bad_places(self):
        for function in (heights_of, height_poses, belt_of):
            self.places_are_asked(function, 1)


class Belts(ReachCase):
    def test_belts(self):
        self.same(vars(belt_of(lamp(), (1, q(-3)))), {"centre": ZERO, "low": ONE, "high": q(5)})
        self.same(vars(belt_of(lamp(), (1, q("3/2")))), {"centre": ZERO, "low": q("1/2"), "high": q("7/2")})
        self.same(vars(belt_of(tree(), (4, q(2)))), {"centre": q("1/2"), "low": q("2/3"), "high": q("16/3")})
        self.same(vars(belt_of(tree(), (5, ONE))), {"centre": q("-1/2"), "low": q(2), "high": q(8)})
        self.same(vars(belt_of(chain(3, 4, 5)[0], (2, q(5)))), {"centre": ZERO, "low": ZERO, "high": q(12)})
        self.same(vars(belt_of(lamp(), [MAST, q(4)])), {"centre": q(4), "low": ZERO, "high": ZERO})
        self.same(vars(belt_of(lamp(), (0, q(-2)))), {"centre": ZERO, "low": q(2), "high": q(2)})
        self.same(vars(belt_of(chain(3, 4, 7)[0], (2, q(7)))), {"centre": ZERO, "low": ZERO, "high": q(14)})

    def test_spots_in_a_belt(self):
        belt = Belt(q(2), ONE, q(5))
        for text in ("0 7", "5 2", "-5 2", "0 -3", "3 6", "-4 -1", "0 1", "1 2", "-3/5 14/5", "2 2", "0 4"):
            self.assertIs(qs(text) in belt, True, text)
            self.assertIs(list(qs(text)) in belt, True, text)
        for text in ("0 71/10", "51/10 2", "0 -31/10", "3 61/10", "0 2", "0 11/10", "1/2 2", "-3/5 27/10", "100 0"):
            self.assertIs(qs(text) in belt, False, text)
        for thing in ODD_THINGS + ((), (ONE,), (0, 4), (ZERO, 4), (ZERO, q(4), ONE), "ab", {ZERO: 1, q(4): 1}, belt):
            self.assertIs(thing in belt, False)

    def test_a_point_of_a_belt(self):
        belt = belt_of(lamp(), (MAST, q(4)))
        self.assertIs(qs("0 4") in belt, True)
        self.assertIs(qs("0 3") in belt, False)

    def test_a_result(self):
        belt = Belt("a", [1], None)
        self.assertEqual(vars(belt), {"centre": "a", "low": [1], "high": None})
        self.assertTrue(belt == Belt(centre="a", low=[1], high=None))
        self.unlike_all(belt, (Belt("b", [1], None), Belt("a", [2], None), Belt("a", [1], 0), ("a", [1], None), None))

    def test_can_come_to(self):
        arms, end = chain(2, 3)
        for text, can in (("0 5", True), ("3 4", True), ("0 1", True), ("3/5 -4/5", True), ("0 0", False),
                          ("3 41/10", False), ("1/2 1/2", False), ("-2 2", True)):
            self.assertIs(can_come_to(arms, end, qs(text)), can)
            self.assertIs(can_come_to(arms, end, list(qs(text))), can)
        for thing in ODD_THINGS + ((), (ONE,), (0, 4), (ZERO, 4), (ZERO, ZERO, ZERO)):
            self.fails(BadSpot, {}, can_come_to, arms, end, thing)
        self.places_are_asked(can_come_to, 1, None)
        self.places_are_asked(can_come_to, 1, qs("0 0"))

    def test_all_spots_lie_in_the_belt(self):
        draws = Draws("belts")
        for _ in range(40):
            arms = draws.arms()
            place = draws.place(arms)
            belt = belt_of(arms, place)
            for pose in list(itertools.islice(flat_poses(arms), 6)) + [draws.pose(arms) for _ in range(6)]:
                self.assertIs(place_at(arms, pose, place) in belt, True)

    def test_the_ends_of_a_belt_are_reached(self):
        arms, end = chain(2, 3)
        self.same(place_at(arms, (RIGHT, LEFT), end), qs("-1 0"))
        self.assertIs(can_come_to(arms, end, qs("-1 0")), True)
        self.assertIs(can_come_to(arms, end, qs("-99/100 0")), False)


if __name__ == "__main__":
    unittest.main()
