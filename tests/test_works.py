"""works.py [2.7] to [2.11], [0.5]."""
import unittest
from fractions import Fraction

from stillarms.arms import Arms
from stillarms.directions import DOWN, LEFT, RIGHT, UP, turned_by
from stillarms.errors import BadDirection, BadPose, NoLetter, NoSuch
from stillarms.poses import height_at, mirrored_pose, quarter_poses, square_between, with_direction
from stillarms.ratios import HALF, ONE, ZERO, negative, sum_of, times
from stillarms.rigs import Rig
from stillarms.works import (Sway, push_at, push_of_spring, push_of_weight, pushes_at, resting_directions, rests_in,
                             spring_works, sway_of, weight_works, work_at)
from tests.cases import MAST, ODD_THINGS, Case, Draws, balanced, frac, lamp, lamp_rig, q, qs

SLANT = qs("3/5 4/5")
POSE = (SLANT, LEFT)
BAD_POSES = ((0, None), (0, ()), (1, (UP,)), (2, (UP, UP, UP)), (1, (UP, ZERO)), (0, (qs("1 1"), UP)))
NO_LETTERS = (0, 3, -1, None, True, False, 1.0, "1")
NO_NUMBERS = (-1, 2, None, True, False, 0.0, "0", (0,))


class Works(Case):
    def test_weights(self):
        # Place 1:3 stands at 2 (3/5, 4/5) + 3 (-1, 0), place 0:1 at (3/5, 4/5).
        self.same(weight_works(lamp_rig(), POSE), qs("16/5 2/5"))
        self.same(weight_works(lamp_rig(), [list(SLANT), list(LEFT)]), qs("16/5 2/5"))
        self.same(weight_works(Rig(lamp()), POSE), ())

    def test_springs(self):
        # mast:4 to 0:1 is (-3/5, 16/5), with the square 53/5; mast:1 to 1:1 is (-1/5, -3/5), with the square 2/5.
        self.same(spring_works(lamp_rig(), POSE), qs("53/20 3/5"))
        self.same(spring_works(lamp_rig(), list(POSE)), qs("53/20 3/5"))
        self.same(spring_works(Rig(lamp()), POSE), ())

    def test_sums(self):
        self.same(work_at(lamp_rig(), POSE), q("137/20"))
        self.same(work_at(Rig(lamp()), POSE), ZERO)

    def test_by_heights_and_distances(self):
        draws = Draws("works")
        for _ in range(40):
            rig = draws.rig()
            pose = draws.pose(rig.arms)
            weights = [times(amount, height_at(rig.arms, pose, place)) for place, amount in rig.weights]
            springs = [times(times(HALF, strength), square_between(rig.arms, pose, one, other))
                       for one, other, strength in rig.springs]
            self.same(weight_works(rig, pose), tuple(weights))
            self.same(spring_works(rig, pose), tuple(springs))
            self.same(work_at(rig, pose), sum_of(weights + springs))

    def test_bad_poses(self):
        rig = lamp_rig()
        for index, pose in BAD_POSES:
            for function in (weight_works, spring_works, work_at, pushes_at, rests_in):
                self.fails(BadPose, {"index": index}, function, rig, pose)
                self.fails(BadPose, {"index": index}, function, Rig(lamp()), pose)


class Pushes(Case):
    def test_of_weights(self):
        rig = lamp_rig()
        self.same([push_of_weight(rig, POSE, 0, letter) for letter in (1, 2)], list(qs("-12/5 6")))
        self.same([push_of_weight(rig, list(POSE), 1, letter) for letter in (1, 2)], list(qs("-3/10 0")))

    def test_of_springs(self):
        rig = lamp_rig()
        # 1/2 * (-1) * (-3/5 * 4/5 - 16/5 * 3/5) and 3 * (-2) * (-1/5 * 4/5 + 3/5 * 3/5), 3 * (-1) * (0 - 3/5).
        self.same([push_of_spring(rig, POSE, 0, letter) for letter in (1, 2)], list(qs("6/5 0")))
        self.same([push_of_spring(rig, list(POSE), 1, letter) for letter in (1, 2)], list(qs("-6/5 9/5")))

    def test_sums(self):
        rig = lamp_rig()
        self.same(pushes_at(rig, POSE), qs("-27/10 39/5"))
        self.same([push_at(rig, list(POSE), letter) for letter in (1, 2)], list(qs("-27/10 39/5")))
        self.same(pushes_at(Rig(lamp()), POSE), qs("0 0"))
        self.same(push_at(Rig(lamp()), POSE, 1), ZERO)

    def test_sides(self):
        rig = Rig(lamp(), (((0, ONE), ONE),))
        # A weight on a bar that points to the right pulls it on to the right.
        self.same([push_at(rig, (way, UP), 1) for way in (UP, LEFT, DOWN, RIGHT)], list(qs("0 1 0 -1")))

    def test_push_is_the_fall_of_the_work(self):
        # work = steady + across x + upward y, so turned left by the half h it is known from the push and the slope.
        draws = Draws("falls")
        for _ in range(40):
            rig = draws.rig()
            pose = draws.pose(rig.arms)
            for letter in range(1, rig.arms.letters + 1):
                works = []
                for half in (q("1/1000000"), q("-1/1000000")):
                    way = turned_by(pose[letter - 1], half)
                    works.append(frac(work_at(rig, with_direction(rig.arms, pose, letter, way))))
                # The difference is the push times the sine of twice the half, without any rest.
                half = Fraction(1, 1000000)
                self.assertEqual(works[1] - works[0], frac(push_at(rig, pose, letter)) * 4 * half / (1 + half ** 2))

    def test_rests(self):
        self.assertIs(rests_in(balanced(), (SLANT,)), True)
        rig = Rig(lamp(), (((1, ONE), ONE),))
        told = [rests_in(rig, pose) for pose in ((UP, DOWN), (DOWN, DOWN), (UP, LEFT), (RIGHT, UP), (SLANT, SLANT))]
        self.assertEqual(told, [True, True, False, False, False])
        self.assertIs(rests_in(Rig(lamp()), [list(SLANT), LEFT]), True)

    def test_mirrored_poses(self):
        draws = Draws("mirrors")
        for _ in range(40):
            rig = draws.rig()
            pose = draws.pose(rig.arms)
            mirrored = mirrored_pose(rig.arms, pose)
            self.same(weight_works(rig, mirrored), weight_works(rig, pose))
            self.same(spring_works(rig, mirrored), spring_works(rig, pose))
            self.same(pushes_at(rig, mirrored), tuple(negative(push) for push in pushes_at(rig, pose)))

    def test_errors_in_their_order(self):
        rig = lamp_rig()
        for function in (push_of_weight, push_of_spring):
            for index, pose in BAD_POSES:
                self.fails(BadPose, {"index": index}, function, rig, pose, 99, 99)
            for number in NO_NUMBERS:
                self.fails(NoSuch, {"number": number}, function, rig, POSE, number, 99)
                self.fails(NoSuch, {"number": number}, function, rig, POSE, number, 1)
            for letter in NO_LETTERS:
                self.fails(NoLetter, {"letter": letter}, function, rig, POSE, 1, letter)
            self.fails(NoSuch, {"number": 0}, function, Rig(lamp()), POSE, 0, 1)
        for function in (push_at, sway_of):
            for index, pose in BAD_POSES:
                self.fails(BadPose, {"index": index}, function, rig, pose, 99)
            for letter in NO_LETTERS:
                self.fails(NoLetter, {"letter": letter}, function, rig, POSE, letter)
                self.fails(NoLetter, {"letter": letter}, function, Rig(lamp()), POSE, letter)

    def test_weights_and_springs_have_their_own_numbers(self):
        rig = lamp_rig().without_weight(1)
        self.fails(NoSuch, {"number": 1}, push_of_weight, rig, POSE, 1, 1)
        self.same(push_of_spring(rig, POSE, 1, 1), q("-6/5"))


class Sways(Case):
    def test_numbers(self):
        sway = sway_of(Rig(lamp(), (((1, q(3)), q(2)),)), POSE, 2)
        self.same((sway.across, sway.upward, sway.steady), qs("0 6 16/5"))
        spring = sway_of(Rig(lamp(), (), (((MAST, q(4)), (1, ONE), q(3)),)), (LEFT, UP), 2)
        # The ends are (2, 4) less the direction apart: 3/2 * (20 + 1 - 4 x - 8 y).
        self.same((spring.across, spring.upward, spring.steady), qs("-6 -12 63/2"))

    def test_no_matter_what_the_letter_has(self):
        for way in (UP, LEFT, DOWN, RIGHT, SLANT):
            self.same(vars(sway_of(lamp_rig(), (SLANT, way), 2)), vars(sway_of(lamp_rig(), POSE, 2)))
            self.same(vars(sway_of(lamp_rig(), [list(way), LEFT], 1)), vars(sway_of(lamp_rig(), POSE, 1)))

    def test_works_and_pushes_in_all_directions(self):
        draws = Draws("sways")
        for _ in range(30):
            rig = draws.rig()
            pose = draws.pose(rig.arms)
            for letter in range(1, rig.arms.letters + 1):
                sway = sway_of(rig, pose, letter)
                for way in (UP, LEFT, DOWN, RIGHT, draws.direction(), list(draws.direction())):
                    turned = with_direction(rig.arms, pose, letter, way)
                    self.same(sway.work_in(way), work_at(rig, turned))
                    self.same(sway.push_in(way), push_at(rig, turned, letter))

    def test_formulas(self):
        sway = Sway(q(3), q(-4), q(7))
        self.same((sway.work_in(SLANT), sway.push_in(SLANT), sway.swing), (q("28/5"), q("24/5"), q(25)))
        for thing in ODD_THINGS + ((), qs("1 1"), (0, 1), qs("0 0")):
            self.fails(BadDirection, {}, sway.work_in, thing)
            self.fails(BadDirection, {}, sway.push_in, thing)

    def test_free(self):
        self.assertIs(Sway(ZERO, ZERO, ONE).is_free(), True)
        self.assertIs(Sway(ONE, ZERO, ONE).is_free(), False)
        self.assertIs(Sway(ZERO, q(-1), ONE).is_free(), False)
        sway = sway_of(Rig(lamp(), (((0, ONE), ONE),)), POSE, 2)
        self.assertIs(sway.is_free(), True)
        self.same((sway.steady, sway.swing), (q("4/5"), ZERO))
        self.assertIs(sway_of(balanced(), (SLANT,), 1).is_free(), True)

    def test_resting_directions(self):
        self.same(resting_directions(Sway(q(3), q(-4), q(7))), (qs("-3/5 4/5"), qs("3/5 -4/5")))
        self.same(resting_directions(Sway(ZERO, q("1/2"), ZERO)), (DOWN, UP))
        self.same(resting_directions(Sway(q("-5/2"), q(6), ZERO)), (qs("5/13 -12/13"), qs("-5/13 12/13")))
        for sway in (Sway(ZERO, ZERO, ONE), Sway(ONE, ONE, ONE), Sway(ONE, HALF, ZERO), Sway(q(2), q("1/3"), ONE)):
            self.assertEqual(resting_directions(sway), ())

    def test_rests_are_the_ends_of_the_work(self):
        draws = Draws("rests")
        many = 0
        for _ in range(60):
            rig = draws.rig(weights=2, springs=1)
            pose = draws.pose(rig.arms)
            sway = sway_of(rig, pose, 1)
            for low, high in [resting_directions(sway)] if resting_directions(sway) else []:
                many += 1
                self.assertEqual((sway.push_in(low), sway.push_in(high)), (ZERO, ZERO))
                for way in (UP, LEFT, DOWN, RIGHT, draws.direction()):
                    self.assertLessEqual(frac(sway.work_in(low)), frac(sway.work_in(way)))
                    self.assertGreaterEqual(frac(sway.work_in(high)), frac(sway.work_in(way)))
        self.assertGreater(many, 10)

    def test_a_result(self):
        sway = Sway("a", None, [3])
        self.assertEqual((sway.across, sway.upward, sway.steady), ("a", None, [3]))
        self.assertTrue(sway == Sway("a", None, [3]))
        self.assertEqual(vars(Sway(across=1, upward=2, steady=3)), {"across": 1, "upward": 2, "steady": 3})
        self.unlike_all(sway, (Sway("b", None, [3]), Sway("a", 0, [3]), Sway("a", None, [4]), ("a", None, [3]), None, 1))


class AllPoses(Case):
    def test_letter_nought_is_never_pushed_or_turned(self):
        rig = Rig(Arms(((MAST, ZERO, 1), (0, ONE, 0))), (((1, q(3)), ONE),))
        for pose in quarter_poses(rig.arms):
            self.same(work_at(rig, pose), sum_of((q(3), pose[0][1])))
            self.fails(NoLetter, {"letter": 0}, push_at, rig, pose, 0)


if __name__ == "__main__":
    unittest.main()
