"""poses.py [2.4] to [2.6], [0.4]."""
import inspect
import itertools
import unittest
from fractions import Fraction

from stillarms.directions import DOWN, LEFT, RIGHT, UP, cosine_between, direction_by, sine_between, turned_by
from stillarms.errors import BadDirection, BadHalf, BadOrder, BadPlace, BadPose, NoLetter
from stillarms.poses import (check_letter, check_pose, cosine_of, direction_of, flat_poses, height_at, hinges_at,
                             mirrored_pose, place_at, pose_by, quarter_poses, renamed_pose, sine_of, square_between,
                             turned_letter, up_pose, with_direction)
from stillarms.ratios import ONE, ZERO
from tests.cases import MAST, NO_RATIOS, ODD_THINGS, Case, Draws, frac, lamp, q, qs, tree

SLANT = qs("3/5 4/5")
POSE = (SLANT, LEFT)
NO_ROWS = ODD_THINGS + ("ab", b"ab", {0: UP, 1: UP}, range(2), iter(()), {UP, LEFT})
NO_DIRECTIONS = ODD_THINGS + ((), (ONE,), qs("1 1"), qs("0 0"), (0, 1), (ZERO, ONE, ZERO), (ZERO, [1, 1]), ((0, 2), ONE))
NO_LETTERS = (-1, 3, 9, None, True, False, 0.0, "0", (0,))


def with_pose(arms, pose):
    """All calls of functions of this file that take a pose, with right other arguments."""
    return ((direction_of, arms, pose, 1), (cosine_of, arms, pose, 0, 1), (sine_of, arms, pose, 0, 1),
            (with_direction, arms, pose, 1, UP), (turned_letter, arms, pose, 1, ONE), (mirrored_pose, arms, pose),
            (renamed_pose, arms, pose, (2, 1)), (place_at, arms, pose, (0, ONE)), (height_at, arms, pose, (0, ONE)),
            (hinges_at, arms, pose), (square_between, arms, pose, (0, ONE), (1, ONE)), (check_pose, arms, pose))


class Checking(Case):
    def bad(self, index, pose):
        for function, *args in with_pose(lamp(), pose):
            self.fails(BadPose, {"index": index}, function, *args)

    def test_poses(self):
        self.same(check_pose(lamp(), POSE), POSE)
        self.same(check_pose(lamp(), [list(SLANT), list(LEFT)]), POSE)
        self.same(check_pose(lamp(), (list(SLANT), LEFT)), POSE)
        self.same(check_pose(tree(), [UP, LEFT, DOWN, RIGHT]), (UP, LEFT, DOWN, RIGHT))

    def test_a_handed_list_is_not_kept(self):
        inner = list(SLANT)
        handed = [inner, LEFT]
        kept = check_pose(lamp(), handed)
        inner[0] = ZERO
        handed.append(UP)
        self.same(kept, POSE)
        self.assertEqual(handed, [[ZERO, q("4/5")], LEFT, UP])

    def test_no_sequence(self):
        for thing in NO_ROWS:
            self.bad(0, thing)

    def test_too_short(self):
        self.bad(0, ())
        self.bad(0, [])
        self.bad(1, (UP,))
        self.bad(1, [UP])
        self.fails(BadPose, {"index": 3}, check_pose, tree(), (UP, UP, UP))

    def test_too_long(self):
        self.bad(2, (UP, UP, UP))
        self.bad(2, [UP, UP, None, None])
        self.bad(2, (UP, UP, UP, UP, UP))

    def test_wrong_at_one_index(self):
        for thing in NO_DIRECTIONS:
            self.bad(0, (thing, UP))
            self.bad(1, [UP, thing])
            self.bad(0, (thing, thing))
            self.bad(0, (thing,))
            self.bad(1, (UP, thing, UP))

    def test_letters(self):
        for letter in (0, 1, 2):
            self.same(check_letter(lamp(), letter), letter)
        for letter in NO_LETTERS:
            self.fails(NoLetter, {"letter": letter}, check_letter, lamp(), letter)
            self.fails(NoLetter, {"letter": letter}, check_letter, lamp(), letter, 1)
            self.fails(NoLetter, {"letter": letter}, direction_of, lamp(), POSE, letter)
            for function in (cosine_of, sine_of):
                self.fails(NoLetter, {"letter": letter}, function, lamp(), POSE, letter, 0)
                self.fails(NoLetter, {"letter": letter}, function, lamp(), POSE, 0, letter)
                self.fails(NoLetter, {"letter": letter}, function, lamp(), POSE, letter, 77)
        self.same([check_letter(tree(), letter, least=1) for letter in (1, 4)], [1, 4])
        self.fails(NoLetter, {"letter": 0}, check_letter, lamp(), 0, 1)
        self.fails(NoLetter, {"letter": 5}, check_letter, tree(), 5)

    def test_letters_from_one_on(self):
        for letter in NO_LETTERS + (0,):
            self.fails(NoLetter, {"letter": letter}, with_direction, lamp(), POSE, letter, UP)
            self.fails(NoLetter, {"letter": letter}, turned_letter, lamp(), POSE, letter, ONE)

    def test_order_of_errors(self):
        bad = (UP, None)
        told = {"index": 1}
        self.fails(BadPose, told, direction_of, lamp(), bad, 9)
        self.fails(BadPose, told, cosine_of, lamp(), bad, 9, 9)
        self.fails(BadPose, told, sine_of, lamp(), bad, 9, 9)
        self.fails(BadPose, told, with_direction, lamp(), bad, 9, None)
        self.fails(BadPose, told, turned_letter, lamp(), bad, 9, 9)
        self.fails(BadPose, told, renamed_pose, lamp(), bad, None)
        self.fails(BadPose, told, place_at, lamp(), bad, None)
        self.fails(BadPose, told, height_at, lamp(), bad, None)
        self.fails(BadPose, told, square_between, lamp(), bad, None, None)
        self.fails(NoLetter, {"letter": 9}, with_direction, lamp(), POSE, 9, None)
        self.fails(NoLetter, {"letter": 9}, turned_letter, lamp(), POSE, 9, 9)


class Making(Case):
    def test_up_pose(self):
        self.same(up_pose(lamp()), (UP, UP))
        self.same(up_pose(tree()), (UP, UP, UP, UP))

    def test_pose_by(self):
        self.same(pose_by(lamp(), (ONE, None)), (LEFT, DOWN))
        self.same(pose_by(lamp(), list(qs("-1/3 0"))), (SLANT, UP))
        for thing in NO_ROWS:
            self.fails(BadPose, {"index": 0}, pose_by, lamp(), thing)
        for thing in NO_RATIOS:
            if thing is not None:
                self.fails(BadPose, {"index": 0}, pose_by, lamp(), (thing, ONE))
                self.fails(BadPose, {"index": 1}, pose_by, lamp(), [None, thing])
        for index, halves in ((0, ()), (1, (ONE,)), (2, qs("1 1 1")), (2, (None, None, None, 7)), (0, (7,))):
            self.fails(BadPose, {"index": index}, pose_by, lamp(), halves)

    def test_flat_poses(self):
        self.assertTrue(inspect.isgeneratorfunction(flat_poses))
        self.same(list(flat_poses(lamp())), [(UP, UP), (UP, DOWN), (DOWN, UP), (DOWN, DOWN)])
        self.same(list(flat_poses(tree())), list(itertools.product((UP, DOWN), repeat=4)))

    def test_quarter_poses(self):
        self.assertTrue(inspect.isgeneratorfunction(quarter_poses))
        for arms in (lamp(), tree()):
            told = list(itertools.product((UP, LEFT, DOWN, RIGHT), repeat=arms.letters))
            self.same(list(quarter_poses(arms)), told)
        self.same(list(quarter_poses(lamp()))[:5], [(UP, UP), (UP, LEFT), (UP, DOWN), (UP, RIGHT), (LEFT, UP)])

    def test_with_direction(self):
        self.same(with_direction(lamp(), POSE, 1, list(DOWN)), (DOWN, LEFT))
        self.same(with_direction(lamp(), list(POSE), 2, DOWN), (SLANT, DOWN))
        self.same(with_direction(tree(), up_pose(tree()), 3, SLANT), (UP, UP, SLANT, UP))
        for thing in NO_DIRECTIONS:
            self.fails(BadDirection, {}, with_direction, lamp(), POSE, 1, thing)

    def test_turned_letter(self):
        self.same(turned_letter(lamp(), POSE, 2, ONE), (SLANT, DOWN))
        self.same(turned_letter(lamp(), [list(SLANT), LEFT], 1, None), (qs("-3/5 -4/5"), LEFT))
        self.same(turned_letter(lamp(), POSE, 1, q("1/2")), (turned_by(SLANT, q("1/2")), LEFT))
        for thing in NO_RATIOS:
            if thing is not None:
                self.fails(BadHalf, {}, turned_letter, lamp(), POSE, 1, thing)

    def test_mirrored_pose(self):
        self.same(mirrored_pose(lamp(), [list(SLANT), LEFT]), (qs("-3/5 4/5"), RIGHT))
        self.same(mirrored_pose(lamp(), (UP, DOWN)), (UP, DOWN))

    def test_renamed_pose(self):
        pose = (UP, LEFT, DOWN, RIGHT)
        for order in ((3, 1, 4, 2), [3, 1, 4, 2]):
            self.same(renamed_pose(tree(), pose, order), (LEFT, RIGHT, UP, DOWN))
        self.same(renamed_pose(lamp(), [list(SLANT), LEFT], (2, 1)), (LEFT, SLANT))
        for order in NO_ROWS + ((), (1,), (1, 1), (0, 1), (1, 3), (1, 2, 3), (True, 2), (1.0, 2), ("1", "2"), "12"):
            self.fails(BadOrder, {}, renamed_pose, lamp(), POSE, order)

    def test_renamed_arms_and_pose(self):
        draws = Draws("renamed poses")
        for _ in range(30):
            arms = draws.arms()
            pose, spot = draws.pose(arms), draws.place(arms)
            order = draws.random.sample(range(1, arms.letters + 1), arms.letters)
            self.assertEqual(place_at(arms.renamed(order), renamed_pose(arms, pose, order), spot),
                             place_at(arms, pose, spot))


class Standing(Case):
    def test_directions_of_letters(self):
        self.same([direction_of(lamp(), POSE, letter) for letter in (0, 1, 2)], [UP, SLANT, LEFT])
        self.same(direction_of(lamp(), [list(SLANT), list(LEFT)], 1), SLANT)

    def test_cosines_and_sines(self):
        ways = (UP,) + POSE
        for one in range(3):
            for other in range(3):
                self.same(cosine_of(lamp(), POSE, one, other), cosine_between(ways[one], ways[other]))
                self.same(sine_of(lamp(), list(POSE), one, other), sine_between(ways[one], ways[other]))
        self.same(sine_of(lamp(), POSE, 0, 2), ONE)
        self.same(sine_of(lamp(), POSE, 2, 0), q(-1))

    def test_place_at(self):
        self.same(place_at(lamp(), POSE, (MAST, q("7/2"))), qs("0 7/2"))
        self.same(place_at(lamp(), POSE, [0, q(5)]), qs("3 4"))
        self.same(place_at(lamp(), POSE, (0, q(-5))), qs("-3 -4"))
        self.same(place_at(lamp(), [list(SLANT), LEFT], (1, q(3))), qs("-9/5 8/5"))
        self.same(place_at(tree(), (LEFT, UP, UP, UP), (1, q(4))), qs("-2 9/2"))

    def test_height_at(self):
        self.same(height_at(lamp(), POSE, (1, q(3))), q("8/5"))
        self.same(height_at(tree(), up_pose(tree()), [5, ONE]), q("15/2"))

    def test_hinges_at(self):
        self.same(hinges_at(lamp(), POSE), (qs("0 0"), qs("6/5 8/5")))
        self.same(hinges_at(tree(), (LEFT, DOWN, UP, RIGHT)), (qs("0 1/2"), qs("-2 1/2"), qs("-2 -1/2"), qs("-3 1/2"),
                                                                qs("-3 5/6"), qs("-2 -11/2")))

    def test_square_between(self):
        self.same(square_between(lamp(), (UP, LEFT), (MAST, q(2)), [1, q(3)]), q(9))
        self.same(square_between(lamp(), POSE, (0, ONE), (0, ONE)), ZERO)
        self.same(square_between(lamp(), (LEFT, UP), (MAST, q(4)), (0, q(3))), q(25))

    def test_bad_places(self):
        for thing in ODD_THINGS + ((), (0,), (2, ONE), (-2, ONE), (0, 1), (True, ONE), (0, ONE, ONE)):
            self.fails(BadPlace, {}, place_at, lamp(), POSE, thing)
            self.fails(BadPlace, {}, height_at, lamp(), POSE, thing)
            self.fails(BadPlace, {}, square_between, lamp(), POSE, thing, (0, ONE))
            self.fails(BadPlace, {}, square_between, lamp(), POSE, (0, ONE), thing)

    def test_places_by_walking_along_the_bars(self):
        draws = Draws("walks")
        for _ in range(60):
            arms = draws.arms()
            pose, (bar, mark) = draws.pose(arms), draws.place(arms)
            ways = [(Fraction(0), Fraction(1))] + [(frac(x), frac(y)) for x, y in pose]
            across, upward = Fraction(0), Fraction(0)
            at, along = bar, frac(mark)
            while at != MAST:
                host, hinge, letter = arms.bars[at]
                across += along * ways[letter][0]
                upward += along * ways[letter][1]
                at, along = host, frac(hinge)
            self.same(place_at(arms, pose, (bar, mark)), (q(across), q(upward + along)))

    def test_the_halves_of_a_pose(self):
        self.same(pose_by(lamp(), (q("1/2"), q(-1))), (direction_by(q("1/2")), RIGHT))


if __name__ == "__main__":
    unittest.main()
