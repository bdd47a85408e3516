"""stillness.py [4.6] to [4.10]."""
import itertools
import unittest

from stillarms.arms import Arms
from stillarms.couplings import constant_of, couplings_by, couplings_of, pairs_of, zero_couplings
from stillarms.directions import DOWN, LEFT, RIGHT, UP
from stillarms.errors import BadLot, BadPose, NoLetter, OtherArms
from stillarms.poses import check_pose, cosine_of, flat_poses, quarter_poses, sine_of, turned_letter, with_direction
from stillarms.ratios import ONE, ZERO, minus, plus, sum_of, times
from stillarms.rigs import Rig
from stillarms.stillness import (Push, Rise, greatest_rise, is_still, loose_letters, lot_push, push_by, push_fault,
                                 push_pose, same_feel, still_or_push, work_by, work_rise)
from stillarms.works import push_at, pushes_at, work_at
from tests.cases import (MAST, ODD_THINGS, Case, Draws, balanced, frac, free, lamp, lamp_rig, q, qs, rig_with,
                         tree)

SLANT = qs("3/5 4/5")
NO_LETTERS = (0, 3, -1, None, True, False, 1.0, "1", (1,))
BAD_POSES = ((0, None), (0, ()), (1, (UP,)), (2, (UP, UP, UP)), (1, (UP, ZERO)), (0, (qs("1 1"), UP)))


def balanced_lamp():
    """A lamp whose two free bars are both balanced by springs to bars that stay upright."""
    arms = Arms(((MAST, ZERO, 1), (0, q(2), 2), (0, q(2), 0)))
    return Rig(arms, (((1, q(3)), q(2)),), (((MAST, q(4)), (0, ONE), ONE), ((2, q(2)), (1, ONE), q(3))))


class Tables(Case):
    def test_work_and_push_by(self):
        couplings = couplings_by(2, qs("1 -2 3"))
        pose = (SLANT, LEFT)
        # Cosines 4/5, 0, -3/5; sines from 0 to 1 -3/5, from 0 to 2 1, from 1 to 2 4/5.
        self.same(work_by(couplings, pose), q("-1"))
        self.same(push_by(couplings, pose, 1), q("-3"))
        self.same(push_by(couplings, pose, 2), q("2/5"))
        self.same(push_by(couplings, [list(way) for way in pose], 2), q("2/5"))
        self.same(work_by(couplings, [list(way) for way in pose]), q("-1"))

    def test_by_the_formulas(self):
        draws = Draws("tables")
        for _ in range(30):
            rig = draws.rig()
            arms, couplings, pose = rig.arms, couplings_of(rig), draws.pose(rig.arms)
            work = sum_of([times(couplings.coupling(j, k), cosine_of(arms, pose, j, k)) for j, k in pairs_of(arms.letters)])
            self.same(work_by(couplings, pose), work)
            self.same(plus(constant_of(rig), work), work_at(rig, pose))
            for letter in range(1, arms.letters + 1):
                push = sum_of([times(couplings.coupling(j, letter), sine_of(arms, pose, j, letter))
                               for j in range(arms.letters + 1) if j != letter])
                self.same(push_by(couplings, pose, letter), push)
                self.same(push_at(rig, pose, letter), push)

    def test_no_letter(self):
        couplings = zero_couplings(2)
        for letter in NO_LETTERS:
            self.fails(NoLetter, {"letter": letter}, push_by, couplings, (UP, UP), letter)
            self.fails(NoLetter, {"letter": letter}, push_pose, couplings, letter)
            self.fails(NoLetter, {"letter": letter}, greatest_rise, lamp_rig(), letter)


class PushPoses(Case):
    def test_poses(self):
        # Numbers of 01, 02, 03, 12, 13, 23.
        couplings = couplings_by(3, qs("1 -2 0 3 -4 5"))
        self.same(push_pose(couplings, 1), (LEFT, UP, DOWN))
        self.same(push_pose(couplings, 2), (DOWN, RIGHT, DOWN))
        self.same(push_pose(couplings, 3), (DOWN, UP, LEFT))
        self.same(push_pose(zero_couplings(2), 1), (LEFT, UP))
        self.same(push_pose(couplings_by(2, qs("-1 7 0")), 1), (RIGHT, UP))
        self.same(push_pose(couplings_by(1, qs("-1")), 1), (RIGHT,))

    def test_push_there_is_the_greatest(self):
        draws = Draws("push poses")
        for _ in range(40):
            letters = draws.random.randint(1, 4)
            couplings = couplings_by(letters, [draws.ratio() for _ in pairs_of(letters)])
            for letter in range(1, letters + 1):
                pose = push_pose(couplings, letter)
                self.same(push_by(couplings, pose, letter), couplings.greatest_push(letter))
                for other in itertools.islice(quarter_poses(free(letters)), 0, None, 5):
                    self.assertLessEqual(abs(frac(push_by(couplings, other, letter))),
                                         frac(couplings.greatest_push(letter)))


class Still(Case):
    def test_still_rigs(self):
        for rig in (balanced(), balanced_lamp(), Rig(lamp()), Rig(lamp(), (((MAST, ONE), ONE),)),
                    Rig(lamp(), (), (((0, ONE), (0, q(3)), ONE),))):
            self.assertIs(is_still(rig), True)
            self.assertIsNone(still_or_push(rig))
            works = {work_at(rig, pose) for pose in quarter_poses(rig.arms)}
            self.assertEqual(works, {constant_of(rig)})

    def test_other_rigs(self):
        rig = lamp_rig()
        self.assertIs(is_still(rig), False)
        # Couplings -7/2, 3, 6.
        self.same(vars(still_or_push(rig)), {"letter": 1, "pose": (RIGHT, DOWN), "push": q("19/2")})
        rig = Rig(lamp(), (((1, ZERO), ONE),), (((MAST, q(2)), (0, ONE), ONE),))
        self.assertIs(is_still(rig), True)
        rig = rig_with(4, c24="-3", c34="1/2")
        self.same(vars(still_or_push(rig)), {"letter": 2, "pose": (UP, LEFT, UP, DOWN), "push": q(3)})
        self.assertIs(is_still(balanced().with_amount(0, q(2))), False)

    def test_told_pushes(self):
        draws = Draws("still")
        for _ in range(60):
            rig = draws.rig(weights=2, springs=2)
            told = still_or_push(rig)
            self.assertEqual(told is None, is_still(rig))
            if told is not None:
                self.same(push_at(rig, told.pose, told.letter), told.push)
                self.assertGreater(frac(told.push), 0)
                self.assertIsNone(push_fault(rig, told))
                for letter in range(1, told.letter):
                    self.assertIn(letter, loose_letters(rig))

    def test_results(self):
        push = Push(1, [UP], ONE)
        self.assertEqual(vars(push), {"letter": 1, "pose": [UP], "push": ONE})
        self.assertTrue(push == Push(push=ONE, pose=[UP], letter=1))
        self.unlike_all(push, (Push(2, [UP], ONE), Push(1, (UP,), ONE), Push(1, [UP], ZERO), (1, [UP], ONE), None))
        rise = Rise(1, "a", "b", None)
        self.assertEqual(vars(rise), {"letter": 1, "low": "a", "high": "b", "rise": None})
        self.assertTrue(rise == Rise(rise=None, high="b", low="a", letter=1))
        self.unlike_all(rise, (Rise(2, "a", "b", None), Rise(1, "c", "b", None), Rise(1, "a", "c", None),
                               Rise(1, "a", "b", 0), (1, "a", "b", None), push))

    def test_push_fault(self):
        rig = lamp_rig()
        pose = (SLANT, LEFT)
        self.same(pushes_at(rig, pose), qs("-27/10 39/5"))
        self.assertIsNone(push_fault(rig, Push(2, pose, q("39/5"))))
        self.assertIsNone(push_fault(rig, Push(2, [list(SLANT), list(LEFT)], q("39/5"))))
        for letter in NO_LETTERS:
            self.assertEqual(push_fault(rig, Push(letter, None, None)), "letter")
            self.assertEqual(push_fault(rig, Push(letter, pose, q("39/5"))), "letter")
        for _, wrong in BAD_POSES:
            self.assertEqual(push_fault(rig, Push(2, wrong, None)), "pose")
            self.assertEqual(push_fault(rig, Push(2, wrong, q("39/5"))), "pose")
        for push in ODD_THINGS + ((78, 10), [39, 5], 7, ZERO, q("-39/5"), q("39/10"), q("27/10")):
            self.assertEqual(push_fault(rig, Push(2, pose, push)), "push")
        # The push on letter 1 there is below 0.
        self.assertEqual(push_fault(rig, Push(1, pose, q("-27/10"))), "push")
        self.assertEqual(push_fault(balanced(), Push(1, (LEFT,), ZERO)), "push")

    def test_same_feel(self):
        rig = lamp_rig()
        self.assertIsNone(same_feel(rig, rig))
        self.assertIsNone(same_feel(rig, rig.with_weight((MAST, ONE), q(7)).with_spring((0, ONE), (0, q(4)), ONE)))
        self.assertIsNone(same_feel(balanced(), Rig(balanced().arms)))
        told = same_feel(rig.with_weight((1, ZERO), ONE), rig)
        self.same(vars(told), {"letter": 1, "pose": (LEFT, UP), "push": q(2)})
        told = same_feel(rig, rig.with_weight((1, ZERO), ONE))
        self.same(vars(told), {"letter": 1, "pose": (RIGHT, UP), "push": q(2)})
        one, other = rig_with(3, c23=2), rig_with(3, c23=2, c13=-1)
        self.same(vars(same_feel(one, other)), {"letter": 1, "pose": (LEFT, UP, UP), "push": ONE})
        self.fails(OtherArms, {}, same_feel, rig, Rig(tree()))
        self.fails(OtherArms, {}, same_feel, Rig(lamp()), Rig(lamp().grown(q(2))))


class Rises(Case):
    def test_work_rise(self):
        rig = lamp_rig()
        self.same(work_rise(rig, (UP, UP), [list(SLANT), LEFT]),
                  minus(work_at(rig, (SLANT, LEFT)), work_at(rig, (UP, UP))))
        self.same(work_rise(rig, (SLANT, LEFT), (SLANT, LEFT)), ZERO)
        self.same(work_rise(balanced(), (UP,), (LEFT,)), ZERO)
        self.same(work_rise(Rig(lamp(), (((0, ONE), ONE),)), (DOWN, UP), (UP, UP)), q(2))
        for index, pose in BAD_POSES:
            self.fails(BadPose, {"index": index}, work_rise, rig, pose, (UP, UP))
            self.fails(BadPose, {"index": index}, work_rise, rig, (UP, UP), pose)
            self.fails(BadPose, {"index": index}, work_rise, rig, pose, (UP, UP, UP, UP))
            self.fails(BadPose, {"index": 1}, work_rise, rig, (UP,), pose)

    def test_greatest_rise(self):
        # Couplings -7/2, 3, 6: the push poses are (right, down) and (up, left).
        rig = lamp_rig()
        self.same(vars(greatest_rise(rig, 1)), {"letter": 1, "low": (UP, DOWN), "high": (DOWN, DOWN), "rise": q(19)})
        self.same(vars(greatest_rise(rig, 2)), {"letter": 2, "low": (UP, DOWN), "high": (UP, UP), "rise": q(18)})
        self.same(vars(greatest_rise(Rig(lamp()), 1)), {"letter": 1, "low": (DOWN, UP), "high": (UP, UP), "rise": ZERO})

    def test_no_rise_is_greater(self):
        draws = Draws("rises")
        for _ in range(40):
            rig = draws.rig()
            for letter in range(1, rig.arms.letters + 1):
                told = greatest_rise(rig, letter)
                for pose in (told.low, told.high):
                    self.same(pose, check_pose(rig.arms, pose))
                self.same(minus(work_at(rig, told.high), work_at(rig, told.low)), told.rise)
                self.same(told.rise, times(q(2), couplings_of(rig).greatest_push(letter)))
                self.same(with_direction(rig.arms, told.low, letter, told.high[letter - 1]), told.high)
                self.same(told.letter, letter)
                pose = draws.pose(rig.arms)
                other = with_direction(rig.arms, pose, letter, draws.direction())
                self.assertLessEqual(abs(frac(work_rise(rig, pose, other))), frac(told.rise))


class Loose(Case):
    def test_loose_letters(self):
        self.same(loose_letters(lamp_rig()), ())
        self.same(loose_letters(Rig(tree())), (1, 2, 3, 4))
        self.same(loose_letters(balanced()), (1,))
        self.same(loose_letters(rig_with(4, c24="-3")), (1, 3))
        self.same(loose_letters(rig_with(4, c01=1, c03=1)), (2, 4))
        self.same(loose_letters(Rig(lamp(), (((0, ONE), ONE),))), (2,))

    def test_turned_alone(self):
        draws = Draws("loose")
        for rig in (rig_with(4, c24="-3"), rig_with(4, c01=1, c34=2), Rig(lamp(), (((0, ONE), ONE),))):
            for letter in range(1, rig.arms.letters + 1):
                rises = [work_rise(rig, pose, turned_letter(rig.arms, pose, letter, q("1/2")))
                         for pose in flat_poses(rig.arms)]
                self.assertEqual(all(rise == ZERO for rise in rises), letter in loose_letters(rig))
                pose = draws.pose(rig.arms)
                if letter in loose_letters(rig):
                    self.same(work_rise(rig, pose, turned_letter(rig.arms, pose, letter, q("2/3"))), ZERO)

    def test_lots(self):
        rig = rig_with(4, c12=2, c34=-1, c03=3)
        for lot in ((1, 2), [1, 2]):
            self.assertIsNone(lot_push(rig, lot))
        self.same(vars(lot_push(rig, (1,))), {"letter": 1, "pose": (LEFT, UP, UP, UP), "push": q(2)})
        self.same(vars(lot_push(rig, [3, 4])), {"letter": 3, "pose": (UP, UP, LEFT, UP), "push": q(3)})
        self.same(vars(lot_push(rig, (1, 2, 3, 4))), {"letter": 3, "pose": (UP, UP, LEFT, UP), "push": q(3)})
        self.same(vars(lot_push(rig, (1, 2, 4))), {"letter": 4, "pose": (UP, UP, DOWN, LEFT), "push": q(1)})
        self.same(vars(lot_push(rig, (2, 3))), {"letter": 2, "pose": (UP, LEFT, UP, UP), "push": q(2)})
        # Letter 0 is always outside: with it coupled to the right, letter 3 turns to the right.
        rig = rig_with(3, c03=-2, c13=5, c23=-1)
        self.same(vars(lot_push(rig, (1, 3))), {"letter": 3, "pose": (UP, UP, RIGHT), "push": q(3)})
        self.same(vars(lot_push(rig, (3,))), {"letter": 3, "pose": (DOWN, UP, RIGHT), "push": q(8)})

    def test_sums_of_pushes(self):
        draws = Draws("lots")
        for _ in range(40):
            rig = draws.rig(weights=2, springs=2)
            letters = range(1, rig.arms.letters + 1)
            for size in letters:
                for lot in itertools.combinations(letters, size):
                    told = lot_push(rig, lot)
                    pose, half = draws.pose(rig.arms), draws.ratio()
                    turned = pose
                    for letter in lot:
                        turned = turned_letter(rig.arms, turned, letter, half)
                    if told is None:
                        self.same(work_rise(rig, pose, turned), ZERO)
                    else:
                        pushes = pushes_at(rig, told.pose)
                        self.assertIn(told.letter, lot)
                        self.same(sum_of([pushes[letter - 1] for letter in lot]), told.push)
                        self.assertGreater(frac(told.push), 0)

    def test_bad_lots(self):
        for lot in ODD_THINGS + ((), [], (0,), (0, 1), (3,), (1, 3), (2, 1), (1, 1), (-1, 1), (True,), (1, True), (1.0,),
                                 ("1",), "12", (None,), {1: 1}, {1, 2}, range(1, 3), (1, 2, 3), ((1,),)):
            self.fails(BadLot, {}, lot_push, lamp_rig(), lot)


if __name__ == "__main__":
    unittest.main()
