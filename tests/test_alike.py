"""alike.py [3.1] to [3.5]."""
import unittest
from fractions import Fraction

from stillarms.alike import (Copying, always_one, apart_pose, copying_of, crooked_pose, crossing_pose, group_places,
                             keeps_distance, same_hinges, slanting_pose, uncopied_pose, unequal_pose)
from stillarms.arms import Arms
from stillarms.directions import DOWN, LEFT, UP
from stillarms.errors import BadPlace, BadSpot
from stillarms.poses import check_pose, place_at, quarter_poses
from stillarms.ratios import ONE, ZERO
from tests.cases import MAST, ODD_THINGS, Case, Draws, frac, lamp, q, qs, tree

A, B, C, D = (0, ONE), (1, ONE), (MAST, ONE), (1, q(-1))
NO_PLACES = ODD_THINGS + ((), (0,), (2, ONE), (-2, ONE), (0, 1), (True, ONE), (0, ONE, ONE), (0, [1, 1]))


def pantograph():
    """Bars 0 and 2 of letter 1, bars 1 and 3 of letter 2, so that bars 2 and 3 close a rhombus with bars 0 and 1."""
    return Arms(((MAST, ZERO, 1), (0, ONE, 2), (1, ONE, 1), (MAST, ZERO, 2), (MAST, ZERO, 0)))


def spot(arms, pose, place):
    x, y = place_at(arms, pose, place)
    return (frac(x), frac(y))


def span(arms, pose, one, other):
    (x1, y1), (x2, y2) = spot(arms, pose, one), spot(arms, pose, other)
    return (x1 - x2, y1 - y2)


def square(arms, pose, one, other):
    x, y = span(arms, pose, one, other)
    return x * x + y * y


def cross(one, other):
    return one[0] * other[1] - one[1] * other[0]


def dot(one, other):
    return one[0] * other[0] + one[1] * other[1]


class AlikeCase(Case):
    def told(self, arms, pose, yes, always):
        """The answer None goes with yes in all drawn poses, another answer is a pose of ratios with no."""
        self.assertEqual(pose is None, always)
        if pose is None:
            draws = Draws("alike")
            for other in [draws.pose(arms) for _ in range(12)] + list(quarter_poses(arms))[::7]:
                self.assertTrue(yes(other))
        else:
            self.same(pose, check_pose(arms, pose))
            self.assertFalse(yes(pose))

    def places_are_asked(self, function, many, *more):
        """BadPlace for each of the places, ahead of all other errors."""
        for thing in NO_PLACES:
            for at in range(many):
                places = [A, B, C, D][:many]
                places[at] = thing
                self.fails(BadPlace, {}, function, lamp(), *places, *more)


class OnePlace(AlikeCase):
    def check(self, arms, one, other, always):
        pose = apart_pose(arms, one, other)
        self.told(arms, pose, lambda other_pose: span(arms, other_pose, one, other) == (0, 0), always)
        self.assertIs(always_one(arms, one, other), always)

    def test_one_under_several_names(self):
        self.check(lamp(), (0, q(2)), (1, ZERO), True)
        self.check(lamp(), (MAST, ZERO), [0, ZERO], True)
        self.check(lamp(), A, A, True)
        self.check(pantograph(), (2, ZERO), (1, ONE), True)
        self.check(pantograph(), (MAST, q(-3)), (4, q(-3)), True)
        self.check(tree(), (1, q("-1")), (2, ZERO), True)

    def test_apart(self):
        self.check(lamp(), A, (0, q(2)), False)
        self.check(lamp(), A, (0, q(-1)), False)
        self.check(lamp(), C, (MAST, q(2)), False)
        self.check(lamp(), (0, q(2)), (MAST, q(2)), False)
        self.check(pantograph(), (1, q(3)), (3, q(3)), False)
        self.check(pantograph(), (1, ONE), (2, ONE), False)

    def test_rows_decide(self):
        draws = Draws("apart")
        for _ in range(80):
            arms = draws.arms()
            one, other = draws.place(arms), draws.place(arms)
            self.check(arms, one, other, arms.row_of(one) == arms.row_of(other))

    def test_groups(self):
        arms = pantograph()
        places = [(0, ONE), (MAST, q(2)), (1, ZERO), [0, ZERO], (4, q(2)), (3, ZERO), (2, ONE), (MAST, ZERO)]
        told = ((0, 2), (1, 4), (3, 5, 7), (6,))
        self.same(group_places(arms, places), told)
        self.same(group_places(arms, tuple(places)), told)
        self.same(group_places(arms, ()), ())
        self.same(group_places(arms, [A]), ((0,),))
        self.same(group_places(lamp(), (A, B, A, B, A)), ((0, 2, 4), (1, 3)))
        for thing in NO_PLACES:
            self.fails(BadPlace, {}, group_places, lamp(), [A, thing])

    def test_same_hinges(self):
        self.same(same_hinges(lamp()), ())
        self.same(same_hinges(pantograph()), ((0, 3), (0, 4), (3, 4)))
        arms = Arms(((MAST, ONE, 1), (MAST, ONE, 2), (0, ZERO, 0), (1, q(2), 1), (2, ONE, 1), (MAST, ONE, 0)))
        self.same(same_hinges(arms), ((0, 1), (0, 2), (0, 5), (1, 2), (1, 5), (2, 5)))
        twins = Arms(((MAST, ZERO, 1), (MAST, ONE, 0), (1, q(-1), 1), (0, q(2), 2), (2, q(2), 3)))
        self.same(same_hinges(twins), ((0, 2), (3, 4)))

    def test_bad_places(self):
        self.places_are_asked(apart_pose, 2)
        self.places_are_asked(always_one, 2)


class Copies(AlikeCase):
    def test_copying_of(self):
        arms = pantograph()
        # 2:1 has the row (0, 2, 1); 0:2 and 3:1 ones on parallel bars have no common ratio with it.
        self.same(vars(copying_of(arms, (0, q(3)), (0, q(-2)))), {"ratio": q("-3/2"), "shift": ZERO})
        self.assertIsNone(copying_of(arms, (2, ONE), (0, q(2))))
        lifted = Arms(((MAST, q(2), 1), (0, q(3), 2), (MAST, q(-5), 1), (2, ONE, 2)))
        self.same(vars(copying_of(lifted, (1, q(6)), (3, q(2)))), {"ratio": q(3), "shift": q(17)})
        self.same(vars(copying_of(lifted, (3, q(2)), (1, q(6)))), {"ratio": q("1/3"), "shift": q("-17/3")})
        self.assertIsNone(copying_of(lifted, (1, q(6)), (3, q(3))))
        self.assertIsNone(copying_of(lifted, (0, q(6)), (1, q(3))))
        self.assertIsNone(copying_of(lifted, (1, q(3)), (0, q(6))))

    def test_what_does_not_move(self):
        arms = pantograph()
        for still in ((MAST, ONE), (0, ZERO), (4, q(2))):
            self.assertIsNone(copying_of(arms, still, (0, ONE)))
            self.assertIsNone(copying_of(arms, (0, ONE), still))
            self.assertIsNone(copying_of(arms, still, still))

    def test_copies_in_all_poses(self):
        draws = Draws("copies")
        many = 0
        for _ in range(300):
            arms = draws.arms()
            one, other = draws.place(arms), draws.place(arms)
            rows = [[frac(number) for number in arms.row_of(place)] for place in (one, other)]
            ratios = [image / source for image, source in zip(rows[0][1:], rows[1][1:]) if source != 0]
            always = bool(ratios) and ratios[0] != 0 and all(
                image == ratios[0] * source for image, source in zip(rows[0][1:], rows[1][1:]))
            told = copying_of(arms, one, other)
            self.assertEqual(told is not None, always)
            if told is not None:
                many += 1
                self.assertIsNone(uncopied_pose(arms, one, other, told))
                for _ in range(4):
                    pose = draws.pose(arms)
                    self.same(place_at(arms, pose, one), told.image_of(place_at(arms, pose, other)))
        self.assertGreater(many, 20)

    def test_images(self):
        copying = Copying(q("-3/2"), q(4))
        self.same(copying.image_of(qs("2 1/3")), qs("-3 7/2"))
        self.same(copying.image_of(list(qs("0 0"))), qs("0 4"))
        for thing in ODD_THINGS + ((), (ONE,), (1, 2), (ONE, 1), (ONE, ONE, ONE)):
            self.fails(BadSpot, {}, copying.image_of, thing)

    def test_fixed_mark(self):
        self.same(Copying(q("-3/2"), q(4)).fixed_mark, q("8/5"))
        self.same(Copying(q(2), q(4)).fixed_mark, q(-4))
        self.same(Copying(q(2), ZERO).fixed_mark, ZERO)
        self.assertIsNone(Copying(ONE, q(4)).fixed_mark)
        self.assertIsNone(Copying(ONE, ZERO).fixed_mark)
        copying = Copying(q("2/7"), q(3))
        self.same(copying.image_of((ZERO, copying.fixed_mark)), (ZERO, copying.fixed_mark))

    def test_chained_and_turned_back(self):
        first, then = Copying(q(2), q(3)), Copying(q("-1/2"), q(5))
        chain = then.chained(first)
        self.same(vars(chain), {"ratio": q(-1), "shift": q("7/2")})
        self.same(vars(first.chained(then)), {"ratio": q(-1), "shift": q(13)})
        self.same(chain.image_of(qs("1 2")), then.image_of(first.image_of(qs("1 2"))))
        self.same(vars(first.turned_back()), {"ratio": q("1/2"), "shift": q("-3/2")})
        self.same(vars(then.turned_back()), {"ratio": q(-2), "shift": q(10)})
        self.same(then.turned_back().image_of(then.image_of(qs("7 -1/9"))), qs("7 -1/9"))
        self.assertTrue(first.turned_back().chained(first) == Copying(ONE, ZERO))

    def test_a_result(self):
        copying = Copying("a", [1])
        self.assertEqual(vars(copying), {"ratio": "a", "shift": [1]})
        self.assertTrue(copying == Copying(shift=[1], ratio="a"))
        self.unlike_all(copying, (Copying("b", [1]), Copying("a", [2]), ("a", [1]), None))

    def uncopied(self, arms, one, other, ratio, shift, always):
        copying = Copying(q(ratio), q(shift))
        pose = uncopied_pose(arms, one, other, copying)
        self.told(arms, pose, lambda at: place_at(arms, at, one) == copying.image_of(place_at(arms, at, other)), always)

    def test_uncopied(self):
        self.uncopied(lamp(), (0, q(3)), (0, q(2)), "3/2", 0, True)
        self.uncopied(lamp(), (0, q(3)), (0, q(2)), "3/2", 1, False)
        self.uncopied(lamp(), (0, q(3)), (0, q(2)), "1/2", 0, False)
        self.uncopied(lamp(), B, A, 1, 0, False)

    def test_uncopied_where_places_do_not_move(self):
        self.uncopied(lamp(), (MAST, q(3)), (MAST, q(2)), 2, -1, True)
        self.uncopied(lamp(), (MAST, q(3)), (MAST, q(2)), 2, 0, False)
        self.uncopied(lamp(), (MAST, q(3)), B, 0, 3, True)
        self.uncopied(lamp(), (MAST, q(3)), B, 0, 2, False)
        self.uncopied(lamp(), B, (MAST, q(3)), 1, 3, False)

    def test_bad_places(self):
        self.places_are_asked(copying_of, 2)
        self.places_are_asked(uncopied_pose, 2, Copying(ONE, ZERO))


class Distances(AlikeCase):
    def test_keeps_distance(self):
        self.same(keeps_distance(lamp(), A, (0, q(-2))), q(9))
        self.same(keeps_distance(lamp(), (0, q(2)), (1, q("-1/2"))), q("1/4"))
        self.same(keeps_distance(lamp(), (MAST, ONE), (MAST, q(5))), q(16))
        self.same(keeps_distance(lamp(), A, A), ZERO)
        self.same(keeps_distance(lamp(), (0, q(2)), (1, ZERO)), ZERO)
        self.same(keeps_distance(pantograph(), (3, ONE), (2, ZERO)), ONE)
        self.assertIsNone(keeps_distance(lamp(), A, C))
        self.assertIsNone(keeps_distance(lamp(), B, A))
        self.assertIsNone(keeps_distance(tree(), (5, ONE), (MAST, ZERO)))

    def check(self, arms, one, other, third, fourth, always):
        pose = unequal_pose(arms, one, other, third, fourth)
        self.told(arms, pose, lambda at: square(arms, at, one, other) == square(arms, at, third, fourth), always)

    def test_equal(self):
        arms = pantograph()
        self.check(arms, A, (MAST, ZERO), (3, q(-1)), (MAST, ZERO), True)
        self.check(arms, (1, ONE), (MAST, ZERO), (MAST, ZERO), (1, ONE), True)
        self.check(arms, (2, ZERO), (MAST, ZERO), (1, ONE), (MAST, ZERO), True)
        self.check(lamp(), A, A, B, B, True)
        # (1, 2, 0) and (2, 1, 0) are spans of equal length in all poses, and so are those with both signs changed.
        self.check(lamp(), (MAST, ONE), (0, q(-2)), (MAST, q(2)), (0, q(-1)), True)
        self.check(lamp(), (MAST, ONE), (0, q(-2)), (0, ONE), (MAST, q(-2)), True)
        self.check(lamp(), (MAST, ONE), (0, q(2)), (0, ONE), (MAST, q(2)), True)

    def test_unequal(self):
        self.check(lamp(), A, (MAST, ZERO), B, (0, q(2)), True)
        self.check(lamp(), A, (MAST, ZERO), (0, q(2)), (MAST, ZERO), False)
        self.check(lamp(), (MAST, ONE), (0, q(-2)), (MAST, ONE), (0, q(2)), False)
        self.check(lamp(), (MAST, ONE), (0, q(2)), (MAST, ONE), (1, ZERO), True)
        self.check(lamp(), (MAST, ONE), (0, q(4)), (MAST, q(2)), (0, q(2)), False)
        self.check(lamp(), C, A, C, B, False)
        # One sum of squares, other products; and the same products, another sum of squares.
        self.check(lamp(), (MAST, q(7)), (0, q(-1)), (MAST, q(5)), (0, q(-5)), False)
        self.check(lamp(), (MAST, q(1)), (0, q(-6)), (MAST, q(2)), (0, q(-3)), False)
        # Three letters of which the first coupled pairs are alike.
        self.check(lamp(), (MAST, ONE), B, (MAST, ONE), D, False)

    def test_rows_decide(self):
        draws = Draws("unequal")
        for _ in range(60):
            arms = draws.arms(draws.random.randint(1, 2))
            places = [draws.place(arms) for _ in range(4)]
            near, far = [[frac(n) for n in arms.difference_row(*pair)] for pair in (places[:2], places[2:])]
            always = all(near[j] * near[k] == far[j] * far[k] for k in range(len(near)) for j in range(k))
            self.check(arms, *places, always and sum(n * n for n in near) == sum(n * n for n in far))

    def test_bad_places(self):
        self.places_are_asked(keeps_distance, 2)
        self.places_are_asked(unequal_pose, 4)


class Lines(AlikeCase):
    def slants(self, arms, one, other, third, fourth, always):
        pose = slanting_pose(arms, one, other, third, fourth)
        self.told(arms, pose, lambda at: cross(span(arms, at, one, other), span(arms, at, third, fourth)) == 0, always)

    def crosses(self, arms, one, other, third, fourth, always):
        pose = crossing_pose(arms, one, other, third, fourth)
        self.told(arms, pose, lambda at: dot(span(arms, at, one, other), span(arms, at, third, fourth)) == 0, always)

    def test_slanting(self):
        arms = pantograph()
        self.slants(arms, (0, ONE), (0, q(-3)), (2, q(5)), (2, q(7)), True)
        self.slants(arms, (1, ONE), (3, ZERO), (2, ONE), (2, ZERO), False)
        self.slants(arms, (1, q(2)), (0, ONE), (MAST, ZERO), (3, ONE), True)
        self.slants(arms, (0, ONE), (3, q(-1)), (0, q(2)), (3, q(-2)), True)
        self.slants(arms, (0, ONE), (3, q(-1)), (0, q(2)), (3, q(2)), False)
        self.slants(arms, (MAST, ONE), (MAST, q(3)), (4, ONE), (4, q(2)), True)
        self.slants(arms, (MAST, ONE), (MAST, q(3)), (0, ONE), (0, q(2)), False)
        self.slants(arms, (0, ONE), (1, ZERO), A, B, True)
        self.slants(arms, A, B, (0, ONE), (1, ZERO), True)
        self.slants(lamp(), (MAST, ONE), (0, q(2)), (MAST, q(2)), (0, ONE), False)
        self.slants(lamp(), (MAST, ONE), (0, q(2)), (MAST, q(-2)), (0, q(-4)), True)

    def test_crossing(self):
        arms = pantograph()
        # The diagonals of the rhombus: from the foot to 1:1, and from 0:1 to 3:1.
        self.crosses(arms, (1, ONE), (MAST, ZERO), (0, ONE), (3, ONE), True)
        self.crosses(arms, (0, ONE), (3, ONE), (2, ZERO), (MAST, ZERO), True)
        self.crosses(arms, (1, q(2)), (MAST, ZERO), (0, ONE), (3, ONE), False)
        self.crosses(arms, (0, ONE), (MAST, ZERO), (3, ONE), (MAST, ZERO), False)
        self.crosses(arms, (0, ONE), (MAST, ZERO), (0, q(3)), (MAST, ZERO), False)
        self.crosses(arms, (0, ONE), (1, ZERO), A, B, True)
        self.crosses(arms, A, B, (0, ONE), (1, ZERO), True)
        # Letter 0 takes part: (1, 1, 0) and (1, -1, 0), also stretched.
        self.crosses(lamp(), (MAST, q(3)), (0, q(-3)), (MAST, q("1/2")), (0, q("1/2")), True)
        self.crosses(lamp(), (MAST, q(3)), (0, q(-3)), (MAST, q("1/2")), (0, q("1/3")), False)
        # The products cancel for each two letters, but not for each letter with itself, and the other way round.
        self.crosses(lamp(), (MAST, ONE), (MAST, ZERO), (MAST, ONE), (MAST, ZERO), False)
        self.crosses(lamp(), (MAST, ONE), (0, q(-1)), (MAST, q(2)), (0, q(2)), True)
        self.crosses(lamp(), (MAST, ONE), (0, q(-2)), (MAST, q(2)), (0, ONE), False)

    def test_one_place_lies_along_and_at_right_angles(self):
        for function in (slanting_pose, crossing_pose):
            self.assertIsNone(function(lamp(), (0, q(2)), (1, ZERO), A, B))
            self.assertIsNone(function(lamp(), A, B, (0, q(2)), (1, ZERO)))

    def test_crooked(self):
        arms = pantograph()
        for one, other, third, always in (
                ((0, ONE), (0, q(2)), (0, q(-5)), True), ((0, ONE), (1, ZERO), (3, q(4)), True),
                ((3, q(2)), (1, ONE), (0, q(2)), True), ((0, ONE), (1, ONE), (3, ONE), False),
                ((MAST, ONE), (4, q(7)), (MAST, q(3)), True), ((MAST, ONE), (0, q(7)), (MAST, q(3)), False),
                ((0, q(2)), (3, q(2)), (1, ONE), True), ((0, q(2)), (3, q(3)), (1, ONE), False)):
            pose = crooked_pose(arms, one, other, third)
            self.told(arms, pose, lambda at: cross(span(arms, at, one, other), span(arms, at, third, other)) == 0, always)

    def test_rows_decide(self):
        draws = Draws("lines")
        for _ in range(60):
            arms = draws.arms(draws.random.randint(1, 2))
            places = [draws.place(arms) for _ in range(4)]
            near, far = [[frac(n) for n in arms.difference_row(*pair)] for pair in (places[:2], places[2:])]
            along = all(near[j] * far[k] == near[k] * far[j] for k in range(len(near)) for j in range(k))
            right = all(near[j] * far[k] + near[k] * far[j] == 0 for k in range(len(near)) for j in range(k))
            self.slants(arms, *places, along)
            self.crosses(arms, *places, right and sum(one * other for one, other in zip(near, far)) == 0)

    def test_bad_places(self):
        self.places_are_asked(slanting_pose, 4)
        self.places_are_asked(crossing_pose, 4)
        self.places_are_asked(crooked_pose, 3)


class Poses(Case):
    def test_places_may_be_lists(self):
        self.assertIsNone(apart_pose(lamp(), [0, q(2)], [1, ZERO]))
        self.assertIsNone(slanting_pose(lamp(), [0, q(2)], [0, ZERO], [0, q(2)], [0, q(5)]))

    def test_sample_spots(self):
        self.assertEqual(spot(pantograph(), (LEFT, UP), (2, ZERO)), (Fraction(-1), Fraction(1)))
        self.assertEqual(spot(pantograph(), (DOWN, UP), (2, ONE)), (Fraction(0), Fraction(-1)))


if __name__ == "__main__":
    unittest.main()
