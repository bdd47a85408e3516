"""feels.py [9.5]."""
import unittest

from stillarms.couplings import couplings_of, span_couplings
from stillarms.errors import BadPlace, OtherLetters
from stillarms.feels import felt_ratio, felt_spring, felt_weight, needless_springs, needless_weights
from stillarms.poses import height_at, square_between
from stillarms.ratios import ONE, ZERO
from stillarms.rigs import Rig
from stillarms.works import pushes_at, work_at
from tests.cases import MAST, ODD_THINGS, Case, Draws, balanced, frac, fracs, free, lamp, lamp_rig, place, q, rig_with, tree

BAD_PLACES = ODD_THINGS + ((2, ONE), (0, 1), (True, ONE), (0, (2, 4)), (0,), "0:1")


def times(rig, ratio):
    """The rig with all amounts and strengths times a ratio above 0."""
    return Rig(rig.arms, [(where, q(frac(amount) * ratio)) for where, amount in rig.weights],
               [(one, other, q(frac(strength) * ratio)) for one, other, strength in rig.springs])


class Ratios(Case):
    def test_multiples(self):
        rig = lamp_rig()
        self.same(felt_ratio(rig, rig), ONE)
        self.same(felt_ratio(times(rig, 3), rig), q(3))
        self.same(felt_ratio(rig, times(rig, 3)), q("1/3"))
        # On other arms too, also with a ratio below 0.
        self.same(felt_ratio(rig_with(2, c01=2, c12=-3), rig_with(2, c01=-4, c12=6)), q("-1/2"))
        self.same(felt_ratio(rig_with(2, c12="3/2"), rig_with(2, c12=-6)), q("-1/4"))
        self.assertIsNone(felt_ratio(rig_with(2, c01=2, c12=3), rig_with(2, c01=4, c12=7)))
        self.assertIsNone(felt_ratio(rig_with(2, c01=2, c12=3), rig_with(2, c01=2)))
        self.assertIsNone(felt_ratio(rig_with(2, c01=2), rig_with(2, c01=2, c12=3)))
        self.assertIsNone(felt_ratio(rig_with(2, c12=2), rig_with(2, c01=2)))

    def test_still_rigs(self):
        still, moved, empty = balanced(), balanced().bare(), Rig(free(1), (), ())
        for other in (still, empty):
            self.same(felt_ratio(still, other), ZERO)
            self.same(felt_ratio(empty, other), ZERO)
            self.assertIsNone(felt_ratio(moved, other))
            self.same(felt_ratio(other, moved), ZERO)

    def test_other_letters(self):
        self.fails(OtherLetters, {}, felt_ratio, balanced(), lamp_rig())
        self.fails(OtherLetters, {}, felt_ratio, Rig(tree(), (), ()), lamp_rig())

    def test_drawn(self):
        draws = Draws("felt ratios")
        for _ in range(40):
            rig = draws.rig()
            letters = rig.arms.letters
            ratio = draws.ratio()
            table = couplings_of(rig).scaled(ratio)
            named = {f"c{one}{other}": frac(table.coupling(one, other)) for one in range(letters) for other in range(one + 1, letters + 1)
                     if table.coupling(one, other) != ZERO}
            made = rig_with(letters, **named)
            if couplings_of(rig).is_zero():
                self.same(felt_ratio(made, rig), ZERO)
                continue
            self.same(felt_ratio(made, rig), ratio)
            # The works differ by a constant; the pushes are multiples.
            rests = set()
            for _ in range(3):
                pose = draws.pose(rig.arms)
                rests.add(frac(work_at(made, pose)) - frac(ratio) * frac(work_at(rig, pose)))
                self.assertEqual(fracs(pushes_at(made, pose)), [frac(ratio) * push for push in fracs(pushes_at(rig, pose))])
            self.assertEqual(len(rests), 1)


class WeightsAndSprings(Case):
    def test_weight_by_hand(self):
        bare = balanced().bare()
        self.same(felt_weight(bare, place(0, 2)), ONE)
        self.same(felt_weight(bare, [0, q(-1)]), q(-2))
        self.same(felt_weight(bare, place(0, 6)), q("1/3"))
        # A height that is the same in all poses is nothing to be felt.
        self.assertIsNone(felt_weight(bare, place(0, 0)))
        self.assertIsNone(felt_weight(bare, place(MAST, 3)))
        self.same(felt_weight(balanced(), place(0, 0)), ZERO)
        self.same(felt_weight(balanced(), place(MAST, 3)), ZERO)
        self.same(felt_weight(balanced(), place(0, 5)), ZERO)
        # A spring from the mast feels as a weight.
        self.same(felt_weight(Rig(balanced().arms, (), balanced().springs), place(0, 1)), q(-2))
        self.assertIsNone(felt_weight(lamp_rig(), place(1, 1)))
        self.same(felt_weight(Rig(lamp(), ((place(1, 3), ONE), (place(1, 3), q(4))), ()), place(1, 3)), q(5))

    def test_spring_by_hand(self):
        bare = balanced().bare()
        self.same(felt_spring(bare, place(MAST, 4), place(0, 1)), q("-1/2"))
        self.same(felt_spring(bare, [MAST, q(-1)], [0, ONE]), q(2))
        self.same(felt_spring(Rig(balanced().arms, (), balanced().springs), place(0, 1), place(MAST, 4)), q("1/2"))
        self.assertIsNone(felt_spring(bare, place(0, 1), place(0, 5)))
        self.assertIsNone(felt_spring(bare, place(0, 1), place(0, 1)))
        self.same(felt_spring(balanced(), place(0, 1), place(0, 1)), ZERO)
        self.same(felt_spring(balanced(), place(MAST, 4), place(0, 1)), ZERO)
        self.same(felt_spring(rig_with(2, c12=6), place(0, 2), place(1, -3)), ONE)

    def test_drawn(self):
        draws = Draws("felt weights and springs")
        count = {True: 0, False: 0}
        for turn in range(80):
            arms = draws.arms()
            where, one, other = (draws.place(arms) for _ in range(3))
            rig = Rig(arms, (), ())
            if turn % 2:
                rig = rig.with_weight(where, draws.positive()).with_weight(where, draws.positive())
            if turn % 3:
                rig = rig.with_spring(one, other, draws.positive())
            weight, spring = felt_weight(rig, where), felt_spring(rig, one, other)
            poses = [draws.pose(arms) for _ in range(4)]
            for told, measure in ((weight, lambda pose: frac(height_at(arms, pose, where))),
                                  (spring, lambda pose: frac(square_between(arms, pose, one, other)) / 2)):
                count[told is not None] += 1
                if told is not None:
                    self.assertEqual(len({frac(work_at(rig, pose)) - frac(told) * measure(pose) for pose in poses}), 1)
            unit = span_couplings(arms, one, other)
            if spring is None:
                self.assertFalse(any(unit.scaled(q(ratio)) == couplings_of(rig) for ratio in range(-6, 7)))
        self.assertTrue(all(many > 20 for many in count.values()), count)

    def test_errors(self):
        rig = lamp_rig()
        for thing in BAD_PLACES:
            self.fails(BadPlace, {}, felt_weight, rig, thing)
            self.fails(BadPlace, {}, felt_spring, rig, thing, place(0, 1))
            self.fails(BadPlace, {}, felt_spring, rig, place(0, 1), thing)


class Needless(Case):
    def test_by_hand(self):
        rig = Rig(lamp(), ((place(MAST, 5), ONE), (place(0, 1), ONE), (place(0, 0), q(3)), (place(1, 0), ONE)),
                  ((place(MAST, 1), place(MAST, 9), ONE), (place(MAST, 1), place(0, 1), ONE), (place(0, 5), place(0, 1), ONE),
                   (place(1, 1), place(0, 2), ONE), (place(1, 1), place(0, 1), ONE), (place(0, 3), place(0, 3), ONE),
                   (place(MAST, 0), place(0, 7), ONE), (place(1, 0), place(MAST, 0), ONE)))
        self.same(needless_weights(rig), (0, 2))
        self.same(needless_springs(rig), (0, 2, 3, 5, 6, 7))
        self.same((needless_weights(balanced()), needless_springs(balanced())), ((), ()))
        self.same((needless_weights(Rig(lamp(), (), ())), needless_springs(Rig(lamp(), (), ()))), ((), ()))

    def test_drawn(self):
        draws = Draws("needless")
        for _ in range(40):
            rig = draws.rig()
            weights = needless_weights(rig)
            springs = needless_springs(rig)
            for number in range(len(rig.weights)):
                same = couplings_of(rig.without_weight(number)) == couplings_of(rig)
                self.assertEqual(number in weights, same)
                self.assertEqual(number in weights, all(entry == ZERO for entry in rig.weight_rows()[number][1:]))
            for number in range(len(rig.springs)):
                same = couplings_of(rig.without_spring(number)) == couplings_of(rig)
                self.assertEqual(number in springs, same)
                self.assertEqual(number in springs, len([entry for entry in rig.spring_row(number) if entry != ZERO]) <= 1)


if __name__ == "__main__":
    unittest.main()
