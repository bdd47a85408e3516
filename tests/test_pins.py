"""pins.py [5.2] to [5.4]."""
import unittest
from fractions import Fraction

from stillarms.brakes import Slips, is_held, slip_of
from stillarms.couplings import couplings_of
from stillarms.directions import DOWN, LEFT, RIGHT, UP
from stillarms.errors import BadBrakes, BadPins, NoLetter
from stillarms.pins import (check_pins, is_held_pinned, pinned_bounds, pinned_fault, pinned_pose, pinned_slip,
                            pinned_stretches)
from stillarms.poses import check_pose, with_direction
from stillarms.ratios import ONE, ZERO
from stillarms.rigs import Rig
from stillarms.works import push_at
from tests.cases import ODD_THINGS, Case, Draws, frac, fracs, lamp, lamp_rig, q, qs, rig_with, tree

SLANT = qs("3/5 4/5")
STEEP = qs("-5/13 12/13")
# The root of 2 lies between these two.
BELOW = q("1.41421356237309504880168872420969807856967187537694")
ABOVE = q("1.41421356237309504880168872420969807856967187537695")

# Things that are no pins of three letters, each with the index at which they are wrong.
BAD_PINS = ((0, None), (0, 3), (0, "1"), (0, {}), (0, {1: UP}), (0, range(1)), (0, {(1, UP)}), (0, (None,)), (0, ("1",)),
            (0, ((1,),)), (0, ((1, UP, UP),)), (0, ((),)), (0, ({1: UP, 2: UP},)), (0, ((0, UP),)), (0, ((4, UP),)),
            (0, ((-1, UP),)), (0, ((True, UP),)), (0, ((1.0, UP),)), (0, (("1", UP),)), (0, ((None, UP),)),
            (1, ((1, UP), (1, UP))), (1, ((2, UP), (1, UP))), (2, ((1, UP), (2, UP), (2, UP))), (1, ((3, UP), (4, UP))),
            (0, ((1, None),)), (0, ((1, ()),)), (0, ((1, (ONE, ONE)),)), (0, ((1, (0, 1)),)), (1, ((1, UP), (2, "up"))),
            (1, [[1, UP], [2, (ZERO, (True, 1))]]), (3, ((1, UP), (2, UP), (3, UP), (3, UP))), (0, ((2, None), (1, UP))))


def draw_pins(draws, arms):
    return tuple((letter, draws.direction()) for letter in range(1, arms.letters + 1) if draws.random.random() < 0.5)


def keeping(arms, pose, pins):
    """The pose with the pinned letters at their directions."""
    for letter, direction in pins:
        pose = with_direction(arms, pose, letter, direction)
    return pose


class CheckingPins(Case):
    def test_right(self):
        arms = rig_with(3).arms
        for pins in ((), ((1, UP),), ((3, SLANT),), ((1, UP), (3, LEFT)), ((1, DOWN), (2, SLANT), (3, UP))):
            self.same(check_pins(arms, pins), pins)
            self.same(check_pins(arms, [[letter, list(direction)] for letter, direction in pins]), pins)
        self.same(check_pins(arms, []), ())

    def test_wrong(self):
        rig = rig_with(3, c01=1)
        slip = Slips(1, (LEFT, UP, UP), ONE)
        for index, pins in BAD_PINS:
            told = {"index": index}
            self.fails(BadPins, told, check_pins, rig.arms, pins)
            self.fails(BadPins, told, pinned_bounds, rig, pins)
            self.fails(BadPins, told, pinned_stretches, rig, pins)
            self.fails(BadPins, told, pinned_pose, rig, pins, 9)
            self.fails(BadPins, told, is_held_pinned, rig, (ZERO,) * 3, pins)
            self.fails(BadPins, told, pinned_slip, rig, (ZERO,) * 3, pins)
            self.fails(BadPins, told, pinned_fault, rig, (ZERO,) * 3, pins, slip)
            for function in (is_held_pinned, pinned_slip):
                self.fails(BadBrakes, {"index": 2}, function, rig, (ZERO, ONE), pins)
            self.fails(BadBrakes, {"index": 1}, pinned_fault, rig, (ZERO, -1, 0), pins, slip)

    def test_handed_lists_are_not_kept(self):
        arms, direction, pins = rig_with(2).arms, list(UP), [[1, list(UP)]]
        pins[0][1] = direction
        told = check_pins(arms, pins)
        direction[0], pins[0][0] = ONE, 2
        self.same(told, ((1, UP),))


class Bounds(Case):
    def test_by_hand(self):
        rig = rig_with(3, c01=1, c12=1, c13="1/3", c02=-2, c23=4)
        # Letter 2 is left: for letter 1 (0, 1) + (-1, 0), for letter 3 4 * (-1, 0).
        self.same(pinned_bounds(rig, ((2, LEFT),)), ((1, q("1/3"), q(2)), (3, q("1/3"), q(16))))
        self.same(pinned_bounds(rig, ()), ((1, q("4/3"), ONE), (2, q(5), q(4)), (3, q("13/3"), ZERO)))
        self.same(pinned_bounds(rig, [[1, list(SLANT)], [3, UP]]), ((2, ZERO, q("41/5")),))
        self.same(pinned_bounds(rig, ((1, UP), (2, LEFT), (3, SLANT))), ())
        self.same(pinned_bounds(Rig(lamp()), ((2, UP),)), ((1, ZERO, ZERO),))

    def test_just_at_below_and_above(self):
        rig = rig_with(3, c01=1, c12=1, c13="1/3", c02=-2, c23=4)
        # With letter 2 left letter 1 has 1/3 + the root of 2; the brake of letter 2 does not count.
        for brake, held in ((frac(BELOW), False), (frac(ABOVE), True), (Fraction(0), False), (Fraction(-1, 3), False)):
            brakes = (q(brake + Fraction(1, 3)), ZERO, q("13/3"))
            self.assertIs(is_held_pinned(rig, brakes, ((2, LEFT),)), held)
            told = pinned_slip(rig, brakes, ((2, LEFT),))
            self.assertEqual(told is None, held)
            if not held:
                self.assertEqual((told.letter, told.pose[1]), (1, LEFT))
                self.assertGreater(frac(told.push), brake + Fraction(1, 3))
                self.assertIsNone(pinned_fault(rig, brakes, ((2, LEFT),), told))
        # The length 4 of letter 3 is a ratio.
        for brake, held in (("13/3", True), ("4334/1000", True), ("4333/1000", False), ("1/3", False), ("1/4", False)):
            brakes = (q(2), ZERO, q(brake))
            self.assertIs(is_held_pinned(rig, brakes, [[2, LEFT]]), held)
            if not held:
                told = pinned_slip(rig, brakes, [[2, LEFT]])
                self.assertEqual((told.letter, frac(told.push) > frac(q(brake))), (3, True))
                self.assertIsNone(pinned_fault(rig, brakes, [[2, LEFT]], told))

    def test_no_pins_is_as_without(self):
        draws = Draws("no pins")
        for _ in range(40):
            rig = draws.rig()
            brakes = tuple(q(abs(frac(draws.ratio()))) for _ in range(rig.arms.letters))
            self.assertEqual(is_held_pinned(rig, brakes, []), is_held(rig, brakes))
            told = pinned_slip(rig, brakes, ())
            if told is not None:
                self.assertEqual(told.letter, slip_of(rig, brakes).letter)
                self.assertIsNone(pinned_fault(rig, brakes, (), told))

    def test_all_pinned(self):
        rig = rig_with(2, c12=5, c01=7)
        self.assertIs(is_held_pinned(rig, (ZERO, ZERO), ((1, UP), (2, LEFT))), True)
        self.assertIsNone(pinned_slip(rig, (ZERO, ZERO), ((1, UP), (2, LEFT))))

    def test_long_roots(self):
        # The length is a root of 2 to some hundred digits; the brakes lie as near as 300 digits let them.
        rig = rig_with(2, c01=1, c12=1)
        top, bottom = 1, 1
        while bottom < 10 ** 140:
            top, bottom = top + 2 * bottom, top + bottom
        for brake in (q(Fraction(top, bottom)), q(Fraction(top + 2 * bottom, top + bottom))):
            held = frac(brake) ** 2 >= 2
            self.assertIs(is_held_pinned(rig, (brake, ZERO), ((2, RIGHT),)), held)
            told = pinned_slip(rig, (brake, ZERO), ((2, RIGHT),))
            if not held:
                self.assertGreater(frac(told.push), frac(brake))
                self.assertIsNone(pinned_fault(rig, (brake, ZERO), ((2, RIGHT),), told))

    def test_lengths_along_all_ways(self):
        # The best direction of letter 1 is nearly up, left, down and right.
        for direction in (UP, LEFT, DOWN, RIGHT, SLANT, STEEP):
            for tiny in ("1/1000000000000", "-1/1000000000000"):
                rig = rig_with(2, c12=1, c01=tiny)
                told = pinned_slip(rig, (q("99999/100000"), ZERO), ((2, direction),))
                self.assertEqual(told.pose[1], direction)
                self.assertIsNone(pinned_fault(rig, (q("99999/100000"), ZERO), ((2, direction),), told))

        # Here a root that is cut off too early would leave no direction at all.
        for one in (1, -1):
            rig = rig_with(2, c12=9, c01=one)
            told = pinned_slip(rig, (q("9055/1000"), ZERO), ((2, LEFT),))
            self.assertIsNone(pinned_fault(rig, (q("9055/1000"), ZERO), ((2, LEFT),), told))

    def test_brakes_of_just_the_push_that_was_told(self):
        rig = rig_with(2, c01=1, c12=1)
        brake = ZERO
        for _ in range(5):
            told = pinned_slip(rig, (brake, ZERO), ((2, RIGHT),))
            self.assertGreater(frac(told.push), frac(brake))
            self.assertIsNone(pinned_fault(rig, (brake, ZERO), ((2, RIGHT),), told))
            brake = told.push

    def test_nothing_fast_pulls_on_it(self):
        # Letter 1 is coupled with letter 3 alone, which is free: any direction of letter 1 will do.
        rig = rig_with(3, c13=-2, c02=1)
        self.same(pinned_bounds(rig, ((2, LEFT),)), ((1, q(2), ZERO), (3, q(2), ZERO)))
        for brake, held in (("2", True), ("199/100", False), ("0", False)):
            told = pinned_slip(rig, qs(brake) + (ZERO, q(2)), ((2, LEFT),))
            self.assertEqual(told is None, held)
            if not held:
                self.same((told.letter, told.push), (1, q(2)))
                self.assertIsNone(pinned_fault(rig, qs(brake) + (ZERO, q(2)), ((2, LEFT),), told))
        # The letter that pulls is held fast where its pull is just opposite to that of letter 0.
        rig = rig_with(3, c01=1, c12=1, c13=1)
        told = pinned_slip(rig, (q("1/2"), ZERO, ONE), ((2, DOWN),))
        self.same((told.letter, told.push), (1, ONE))

    def test_pushes_in_all_poses_that_keep(self):
        draws = Draws("pins")
        slips = 0
        for _ in range(80):
            rig = draws.rig()
            arms, pins = rig.arms, draw_pins(draws, rig.arms)
            bounds = pinned_bounds(rig, pins)
            self.assertEqual([bound[0] for bound in bounds],
                             [letter for letter in range(1, arms.letters + 1) if letter not in dict(pins)])
            for letter, reach, square in bounds:
                push = abs(frac(push_at(rig, keeping(arms, draws.pose(arms), pins), letter)))
                self.assertTrue(push <= frac(reach) or (push - frac(reach)) ** 2 <= frac(square))
            brakes = tuple(q(abs(frac(draws.ratio()))) for _ in range(arms.letters))
            over = [letter for letter, reach, square in bounds
                    if frac(brakes[letter - 1]) < frac(reach)
                    or frac(square) > (frac(brakes[letter - 1]) - frac(reach)) ** 2]
            told = pinned_slip(rig, brakes, pins)
            self.assertEqual(is_held_pinned(rig, brakes, pins), over == [])
            self.assertEqual(told is None, over == [])
            if told is not None:
                slips += 1
                self.assertEqual(told.letter, over[0])
                self.same(told.pose, check_pose(arms, told.pose))
                self.same(keeping(arms, told.pose, pins), told.pose)
                self.same(push_at(rig, told.pose, told.letter), told.push)
                self.assertGreater(abs(frac(told.push)), frac(brakes[told.letter - 1]))
                self.assertIsNone(pinned_fault(rig, brakes, pins, told))
        self.assertGreater(slips, 20)

    def test_the_bound_is_reached(self):
        # Brakes just below S + the length are always too weak.
        draws = Draws("reached")
        for _ in range(40):
            rig = draws.rig()
            pins = draw_pins(draws, rig.arms)
            for letter, reach, square in pinned_bounds(rig, pins):
                low = Fraction(int(frac(square) * 10 ** 20), 10 ** 20)
                length = Fraction(int((low.numerator * 10 ** 20 // low.denominator) ** 0.5), 10 ** 10) - Fraction(1, 10 ** 3)
                if length > 0:
                    brakes = [q(10 ** 9)] * rig.arms.letters
                    brakes[letter - 1] = q(frac(reach) + length)
                    told = pinned_slip(rig, brakes, pins)
                    self.assertEqual(told.letter, letter)
                    self.assertIsNone(pinned_fault(rig, brakes, pins, told))


class Judging(Case):
    def setUp(self):
        self.rig = rig_with(3, c01=1, c12=1, c13="1/3", c02=-2, c23=4)
        self.pins = ((2, LEFT),)

    def fault(self, letter, pose, push, brakes="1 0 1"):
        return pinned_fault(self.rig, qs(brakes), self.pins, Slips(letter, pose, push))

    def test_right_papers(self):
        self.assertIsNone(self.fault(3, (UP, LEFT, DOWN), q(4)))
        self.assertIsNone(self.fault(3, [UP, list(LEFT), list(UP)], q(-4)))

    def test_letter(self):
        for letter in ODD_THINGS + (0, 2, 4, -1, (1,)):
            self.assertEqual(self.fault(letter, (UP, LEFT, DOWN), q(4)), "letter")
            self.assertEqual(self.fault(letter, None, None), "letter")

    def test_pose_and_pins(self):
        for pose in ODD_THINGS + ((), (UP, LEFT), (UP, LEFT, UP, UP), (UP, LEFT, ONE)):
            self.assertEqual(self.fault(3, pose, None), "pose")
        for pose in ((UP, UP, DOWN), (UP, RIGHT, UP), (LEFT, SLANT, DOWN)):
            self.assertEqual(self.fault(3, pose, push_at(self.rig, pose, 3)), "pins")
            self.assertEqual(self.fault(3, pose, None), "pins")

    def test_push_and_held(self):
        for push in ODD_THINGS + (4, [4, 1], (4.0, 1), (8, 2), q(3), q(-4)):
            self.assertEqual(self.fault(3, (UP, LEFT, DOWN), push), "push")
        self.assertEqual(self.fault(3, (UP, LEFT, DOWN), q(4), "0 0 4"), "held")
        self.assertEqual(self.fault(3, (UP, LEFT, UP), q(-4), "0 0 4"), "held")
        self.assertIsNone(self.fault(3, (UP, LEFT, UP), q(-4), "0 0 399/100"))


class PinnedLetters(Case):
    def test_by_hand(self):
        rig = rig_with(3, c01=1, c12=2, c13="-1/3", c02=-2, c23=4)
        # Letter 1 is left, letter 2 up: letter 1 has 1 + 2, letter 2 0 - 2; letter 3 is free.
        pins = ((1, LEFT), (2, UP))
        self.same(pinned_stretches(rig, pins), ((1, q("8/3"), q("10/3")), (2, q(-6), q(2))))
        self.same(pinned_pose(rig, pins, 1), (LEFT, UP, DOWN))
        self.same(pinned_pose(rig, [[1, list(LEFT)], [2, UP]], 2), (LEFT, UP, RIGHT))
        self.same(pinned_stretches(rig, ()), ())
        self.same(pinned_stretches(rig, ((3, SLANT),)), ((3, q("-13/3"), q("13/3")),))
        # A coupling of 0 counts as one from 0 on.
        self.same(pinned_pose(rig_with(2), ((1, SLANT),), 1), (SLANT, qs("4/5 -3/5")))
        self.same(pinned_pose(rig_with(2, c12=-1), ((1, SLANT),), 1), (SLANT, qs("-4/5 3/5")))

    def test_no_letter(self):
        rig = rig_with(3, c01=1)
        for letter in ODD_THINGS + (0, 1, 3, 4, -1, (2,), 2.0):
            self.fails(NoLetter, {"letter": letter}, pinned_pose, rig, ((2, UP),), letter)
        self.fails(NoLetter, {"letter": True}, pinned_pose, rig, ((1, UP),), True)
        self.fails(NoLetter, {"letter": 1}, pinned_pose, rig, (), 1)

    def test_all_pushes_lie_between(self):
        draws = Draws("pinned letters")
        for _ in range(60):
            rig = draws.rig()
            arms, pins = rig.arms, draw_pins(draws, rig.arms)
            stretches = pinned_stretches(rig, pins)
            self.assertEqual([row[0] for row in stretches], [letter for letter, _ in pins])
            couplings = couplings_of(rig)
            for letter, low, high in stretches:
                free = [other for other in range(1, arms.letters + 1) if other not in dict(pins)]
                reach = sum(abs(frac(couplings.coupling(other, letter))) for other in free)
                self.assertEqual(frac(high) - frac(low), 2 * reach)
                pose = pinned_pose(rig, pins, letter)
                self.same(keeping(arms, pose, pins), check_pose(arms, pose))
                self.same(push_at(rig, pose, letter), high)
                push = frac(push_at(rig, keeping(arms, draws.pose(arms), pins), letter))
                self.assertTrue(frac(low) <= push <= frac(high))
                opposite = pose
                for other in free:
                    opposite = with_direction(arms, opposite, other, [q(-x) for x in fracs(pose[other - 1])])
                self.same(push_at(rig, opposite, letter), low)


class WithWhatIsBuilt(Case):
    def test_grown_shifted_and_renamed(self):
        draws = Draws("pins of other rigs")
        for _ in range(20):
            rig = draws.rig()
            pins = draw_pins(draws, rig.arms)
            self.same(pinned_bounds(rig.shifted(draws.ratio()), pins), pinned_bounds(rig, pins))
            self.same(pinned_stretches(rig.shifted(draws.ratio()), pins), pinned_stretches(rig, pins))
            order = list(range(1, rig.arms.letters + 1))
            draws.random.shuffle(order)
            other = tuple(sorted((order[letter - 1], direction) for letter, direction in pins))
            told = sorted((order[letter - 1], reach, square) for letter, reach, square in pinned_bounds(rig, pins))
            self.same(pinned_bounds(rig.renamed(order), other), tuple(told))

    def test_samples(self):
        self.same(pinned_bounds(lamp_rig(), ((1, UP),)), ((2, ZERO, q(81)),))
        self.same(pinned_bounds(Rig(tree()), ((1, UP), (4, LEFT))), ((2, ZERO, ZERO), (3, ZERO, ZERO)))


if __name__ == "__main__":
    unittest.main()
