"""brakes.py [5.1]."""
import unittest

from stillarms.armtext import arm_text, arms_of
from stillarms.brakes import Slips, check_brakes, is_held, least_brakes, slip_fault, slip_of
from stillarms.couplings import couplings_of
from stillarms.directions import DOWN, LEFT, RIGHT, UP
from stillarms.errors import BadBrakes
from stillarms.ratios import ONE, ZERO, negative, times
from stillarms.rigs import Rig
from stillarms.rigtext import rig_of, rig_text
from stillarms.stillness import is_still, push_pose
from stillarms.works import push_at, pushes_at
from tests.cases import NO_RATIOS, ODD_THINGS, Case, Draws, balanced, frac, fracs, lamp, lamp_rig, q, qs, rig_with, tree

# Things that are no row of two brakes, each with the index at which it is wrong.
BAD_BRAKES = ((0, None), (0, ()), (0, []), (0, 5), (0, "11"), (0, {}), (0, {0: ONE, 1: ONE}), (1, (ONE,)),
              (2, (ONE, ONE, ONE)), (2, [ONE, ONE, None, None]), (0, (1, ONE)), (1, (ONE, q("-1/9"))),
              (0, (q(-1), None)), (1, (ONE, [1, 1])), (0, ((2, 4), ONE)), (1, (ONE, (True, 1))), (0, range(2)),
              (0, {ONE, ZERO}), (1, [ZERO, 0]))
NO_LETTERS = ODD_THINGS + (0, 4, -1, (1,), [1], ONE)


def near(ratio, step):
    """The ratio with so many billionths added."""
    return q(frac(ratio) + frac((step, 10 ** 9)))


class CheckingBrakes(Case):
    def test_right(self):
        for brakes in (qs("0 1"), list(qs("0 1")), qs("1/3 1000000"), (ZERO, ZERO)):
            self.same(check_brakes(lamp(), brakes), tuple(brakes))
        self.same(check_brakes(tree(), [ONE] * 4), (ONE,) * 4)

    def test_wrong(self):
        rig = lamp_rig()
        slip = slip_of(rig, (ZERO, ZERO))
        for index, brakes in BAD_BRAKES:
            self.fails(BadBrakes, {"index": index}, check_brakes, lamp(), brakes)
            self.fails(BadBrakes, {"index": index}, is_held, rig, brakes)
            self.fails(BadBrakes, {"index": index}, slip_of, rig, brakes)
            self.fails(BadBrakes, {"index": index}, slip_fault, rig, brakes, slip)
            self.fails(BadBrakes, {"index": index}, slip_fault, rig, brakes, Slips(None, None, None))
        for thing in NO_RATIOS + qs("-1 -1/7"):
            self.fails(BadBrakes, {"index": 0}, check_brakes, lamp(), (thing, None))
            self.fails(BadBrakes, {"index": 1}, check_brakes, lamp(), [ONE, thing])

    def test_unchanged(self):
        brakes = [ONE, q(2)]
        slip_of(lamp_rig(), brakes)
        self.same(brakes, [ONE, q(2)])


class LeastBrakes(Case):
    def test_sums(self):
        self.same(least_brakes(rig_with(3, c01=-2, c12=3, c03="1/2")), qs("5 3 1/2"))
        self.same(least_brakes(rig_with(4, c01=-2, c12="-3/2", c13=1, c34=-7)), qs("9/2 3/2 8 7"))
        # The couplings are -7/2, 3 and 6.
        self.same(least_brakes(lamp_rig()), qs("19/2 9"))
        self.same(least_brakes(Rig(tree())), (ZERO,) * 4)
        self.same(least_brakes(balanced()), (ZERO,))

    def test_just_at_below_and_above(self):
        for rig in (rig_with(3, c01=-2, c12=3, c03="1/2"), lamp_rig(), rig_with(4, c01=1, c12="-3/2", c24=5, c34=-7)):
            least = least_brakes(rig)
            self.assertTrue(is_held(rig, least))
            self.assertIs(is_held(rig, list(least)), True)
            for index in range(len(least)):
                below = least[:index] + (near(least[index], -1),) + least[index + 1:]
                above = least[:index] + (near(least[index], 1),) + least[index + 1:]
                if least[index] != ZERO:
                    self.assertIs(is_held(rig, below), False)
                    self.assertEqual(slip_of(rig, below).letter, index + 1)
                self.assertIs(is_held(rig, above), True)
                self.assertIsNone(slip_of(rig, above))

    def test_still_rigs_need_none(self):
        self.assertTrue(is_held(balanced(), (ZERO,)))
        self.assertIsNone(slip_of(balanced(), [ZERO]))
        self.assertTrue(is_held(Rig(lamp()), (ZERO, ZERO)))

    def test_pushes_in_all_poses(self):
        draws = Draws("brakes")
        for _ in range(40):
            rig = draws.rig()
            least = least_brakes(rig)
            self.assertEqual(is_held(rig, (ZERO,) * rig.arms.letters), is_still(rig))
            for _ in range(3):
                for push, brake in zip(pushes_at(rig, draws.pose(rig.arms)), least):
                    self.assertLessEqual(abs(frac(push)), frac(brake))
            for letter, brake in enumerate(least, 1):
                self.same(push_at(rig, push_pose(couplings_of(rig), letter), letter), brake)


class SlipsTold(Case):
    def test_least_letter_and_its_push_pose(self):
        rig = rig_with(3, c01=-2, c12=3, c03="1/2")
        told = slip_of(rig, qs("5 3 0"))
        self.assertIs(type(told), Slips)
        self.same(vars(told), {"letter": 3, "pose": (UP, UP, LEFT), "push": q("1/2")})
        self.same(vars(slip_of(rig, qs("5 1 0"))), {"letter": 2, "pose": (UP, LEFT, UP), "push": q(3)})
        self.same(vars(slip_of(rig, qs("9/2 1 0"))), {"letter": 1, "pose": (RIGHT, DOWN, UP), "push": q(5)})
        self.same(vars(slip_of(lamp_rig(), [q(9), q(9)])), {"letter": 1, "pose": (RIGHT, DOWN), "push": q("19/2")})

    def test_equality(self):
        told = slip_of(lamp_rig(), (ZERO, ZERO))
        self.assertTrue(told == Slips(1, (RIGHT, DOWN), q("19/2")))
        self.unlike_all(told, (Slips(2, (RIGHT, DOWN), q("19/2")), Slips(1, (RIGHT, UP), q("19/2")),
                               Slips(1, (RIGHT, DOWN), q(9)), None, (1, (RIGHT, DOWN), q("19/2"))))

    def test_told_slips_are_right(self):
        draws = Draws("slips")
        for _ in range(60):
            rig = draws.rig()
            brakes = tuple(q(abs(frac(draws.ratio()))) for _ in range(rig.arms.letters))
            told = slip_of(rig, brakes)
            over = [letter for letter, (least, brake) in enumerate(zip(fracs(least_brakes(rig)), fracs(brakes)), 1)
                    if least > brake]
            self.assertEqual(is_held(rig, brakes), told is None)
            if over == []:
                self.assertIsNone(told)
            else:
                self.assertEqual(told.letter, over[0])
                self.same(told.pose, push_pose(couplings_of(rig), told.letter))
                self.same(told.push, least_brakes(rig)[told.letter - 1])
                self.assertIsNone(slip_fault(rig, brakes, told))


class Judging(Case):
    def setUp(self):
        self.rig = rig_with(3, c01=-2, c12=3, c03="1/2")

    def fault(self, letter, pose, push, brakes="1 1 0"):
        return slip_fault(self.rig, qs(brakes), Slips(letter, pose, push))

    def test_right_papers(self):
        self.assertIsNone(self.fault(1, (RIGHT, DOWN, UP), q(5)))
        self.assertIsNone(self.fault(1, [list(RIGHT), DOWN, UP], q(5)))
        self.assertIsNone(self.fault(2, (RIGHT, UP, DOWN), q("3")))
        # Any letter that is not held will do, and pushes to the right as well as to the left.
        self.assertIsNone(self.fault(3, (UP, UP, RIGHT), q("-1/2")))
        self.assertIsNone(self.fault(1, (LEFT, DOWN, UP), q("-5")))
        self.assertIsNone(self.fault(1, (LEFT, UP, UP), q(1), "9/10 0 0"))

    def test_letter(self):
        for letter in NO_LETTERS:
            self.assertEqual(self.fault(letter, (RIGHT, DOWN, UP), q(5)), "letter")
            self.assertEqual(self.fault(letter, None, None), "letter")
        self.assertEqual(slip_fault(lamp_rig(), (ZERO, ZERO), Slips(3, (UP, UP), ONE)), "letter")

    def test_pose(self):
        for pose in ODD_THINGS + ((), (RIGHT, DOWN), (RIGHT, DOWN, UP, UP), (RIGHT, DOWN, None), (RIGHT, DOWN, (ONE, ONE)),
                                  (RIGHT, DOWN, ((0, 1), (True, 1)))):
            self.assertEqual(self.fault(1, pose, q(5)), "pose")
            self.assertEqual(self.fault(1, pose, None), "pose")

    def test_push(self):
        for push in NO_RATIOS + ((5.0, 1), [5, 1], q(4), q("-5"), (10, 2), ZERO, 5):
            self.assertEqual(self.fault(1, (RIGHT, DOWN, UP), push), "push")
        self.assertEqual(self.fault(1, (LEFT, UP, UP), (True, 1)), "push")
        self.assertEqual(self.fault(1, (UP, UP, UP), q(5), "9 9 9"), "push")

    def test_held(self):
        self.assertEqual(self.fault(1, (LEFT, UP, UP), q(1)), "held")
        self.assertIsNone(self.fault(1, (LEFT, UP, UP), q(1), "999/1000 0 0"))
        self.assertEqual(self.fault(1, (RIGHT, DOWN, UP), q(5), "5 0 0"), "held")
        self.assertEqual(self.fault(1, (LEFT, DOWN, UP), q(-5), "5 0 0"), "held")
        self.assertEqual(self.fault(1, (UP, UP, UP), ZERO, "0 0 0"), "held")


class WithWhatIsBuilt(Case):
    def test_grown_shifted_renamed_and_read(self):
        draws = Draws("brakes of other rigs")
        for _ in range(30):
            rig = draws.rig()
            arms, least = rig.arms, least_brakes(rig)
            self.same(least_brakes(rig.shifted(draws.ratio())), least)
            size = draws.positive()
            self.same(least_brakes(rig.bare().grown(size)), tuple(times(brake, size) for brake in least_brakes(rig.bare())))
            springs = Rig(arms, (), rig.springs)
            self.same(least_brakes(springs.grown(size)),
                      tuple(times(brake, times(size, size)) for brake in least_brakes(springs)))
            order = list(range(1, arms.letters + 1))
            draws.random.shuffle(order)
            renamed = least_brakes(rig.renamed(order))
            self.same(tuple(renamed[name - 1] for name in order), least)
            read = rig_of(arms_of(arm_text(arms)), rig_text(rig))
            brakes = tuple(draws.positive() for _ in order)
            self.same(least_brakes(read), least)
            self.assertEqual(is_held(rig, brakes), is_held(rig.shifted(negative(size)), brakes))
            told, other = slip_of(rig, brakes), slip_of(read, brakes)
            self.assertTrue(told == other)
            if told is not None:
                self.assertIsNone(slip_fault(rig.shifted(ONE), brakes, told))


if __name__ == "__main__":
    unittest.main()
