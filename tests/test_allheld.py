"""allheld.py [5.7], [5.8]."""
import unittest

from stillarms.allheld import (Breach, Stirred, all_held, all_still, breach_fault, coupling_extent, least_brakes_for,
                               numbers_that_matter, push_extent, rise_extent)
from stillarms.brakes import Slips, is_held, least_brakes, slip_of
from stillarms.couplings import couplings_of, pairs_of
from stillarms.directions import DOWN, LEFT, RIGHT, UP
from stillarms.errors import BadBrakes, BadPins, BadPose, NoLetter, NoPair
from stillarms.pins import is_held_pinned, pinned_fault, pinned_slip
from stillarms.ratios import ONE, ZERO
from stillarms.stillness import is_still, push_fault, still_or_push, work_rise
from stillarms.stretches import Stretched, corner_choices, rig_at, rig_by
from stillarms.works import push_at
from tests.cases import MAST, ODD_THINGS, Case, Draws, balanced, frac, q, qs
from tests.test_pins import draw_pins

BAD_POSES = ((0, None), (0, ()), (1, (UP,)), (2, (UP, UP, UP)), (1, (UP, None)), (0, ((ONE, ONE), UP)))


def between(draws, stretched):
    """Numbers for the stretches, drawn between their ends."""
    return tuple(q(frac(low) + (frac(high) - frac(low)) * draws.random.randint(0, 5) / 5) for low, high in stretched.stretches)


def draw_stretched(draws, most=4):
    """A family of rigs of which up to so many marks, amounts and strengths are stretches."""
    rig = draws.rig(weights=2, springs=3)
    left = [draws.random.randint(0, most)]

    def stretch(ratio, least=None):
        if left[0] == 0 or draws.random.random() < 0.5:
            return ratio
        left[0] -= 1
        low = q(max(frac(ratio) - draws.random.randint(0, 3), frac(ratio) - 9 if least is None else 0))
        return (low, q(frac(ratio) + draws.random.randint(1, 3)))

    bars = [(host, stretch(mark), letter) for host, mark, letter in rig.arms.bars]
    weights = [((bar, stretch(mark)), stretch(amount, 0)) for (bar, mark), amount in rig.weights]
    springs = [((one[0], stretch(one[1])), (other[0], stretch(other[1])), stretch(strength, 0))
               for one, other, strength in rig.springs]
    return Stretched(bars, weights, springs)


def sample():
    """Two letters; the couplings are a, b - 2 s and -3 s, for an amount a, an amount b and a strength s."""
    bars = ((MAST, ZERO, 1), (MAST, ZERO, 2))
    return Stretched(bars, (((0, ONE), qs("1 2")), ((1, ONE), qs("0 5"))),
                     (((1, ONE), (MAST, q(2)), qs("0 1")), ((0, q(3)), (1, ONE), qs("0 1"))))


class Extents(Case):
    def test_couplings_by_hand(self):
        # The second spring couples 1 and 2 alone, the first 0 and 2 alone.
        self.same(coupling_extent(sample(), 0, 1), qs("1 2"))
        self.same(coupling_extent(sample(), 1, 0), qs("1 2"))
        self.same(coupling_extent(sample(), 0, 2), qs("-2 5"))
        self.same(coupling_extent(sample(), 2, 1), qs("-3 0"))
        # A mark that takes a spring's row through 0.
        made = Stretched(((MAST, ZERO, 1),), (), (((0, ONE), (MAST, qs("-1 3")), q(2)),))
        self.same(coupling_extent(made, 0, 1), qs("-6 2"))
        self.same(coupling_extent(Stretched.from_rig(balanced()), 1, 0), (ZERO, ZERO))

    def test_no_pair(self):
        for one, other in ((0, 0), (1, 1), (0, 3), (-1, 1), (True, 2), (1, None), ("0", 1), (1.0, 2), (9, 9), (2, False)):
            self.fails(NoPair, {"one": one, "other": other}, coupling_extent, sample(), one, other)

    def test_pushes_by_hand(self):
        self.same(push_extent(sample(), (LEFT, UP), 1), qs("-2 2"))
        self.same(push_extent(sample(), [list(UP), LEFT], 2), qs("-5 5"))
        self.same(push_extent(sample(), (UP, DOWN), 2), (ZERO, ZERO))

    def test_rises_by_hand(self):
        # Letter 1 goes down: its coupling with 0 is taken twice, that with 2 twice with its sign changed.
        self.same(rise_extent(sample(), (UP, UP), (DOWN, UP)), qs("-4 4"))
        self.same(rise_extent(sample(), [list(UP), UP], [UP, list(UP)]), (ZERO, ZERO))

    def test_errors(self):
        for index, pose in BAD_POSES:
            self.fails(BadPose, {"index": index}, push_extent, sample(), pose, 9)
            self.fails(BadPose, {"index": index}, rise_extent, sample(), pose, None)
            self.fails(BadPose, {"index": index}, rise_extent, sample(), (UP, UP), pose)
        for letter in ODD_THINGS + (0, 3, -1, (1,)):
            self.fails(NoLetter, {"letter": letter}, push_extent, sample(), (UP, UP), letter)

    def test_corners_and_between(self):
        draws = Draws("extents")
        for _ in range(25):
            made = draw_stretched(draws)
            rigs = [rig_by(made, choice) for choice in corner_choices(made)]
            middle = [rig_at(made, between(draws, made)) for _ in range(3)] + [rig_at(made, made.middle)]
            arms = rigs[0].arms
            pose, other = draws.pose(arms), draws.pose(arms)
            letter = draws.random.randint(1, arms.letters)
            pair = draws.random.choice(pairs_of(arms.letters))
            for told, ask in ((coupling_extent(made, *pair), lambda rig: couplings_of(rig).coupling(*pair)),
                              (push_extent(made, pose, letter), lambda rig: push_at(rig, pose, letter)),
                              (rise_extent(made, pose, other), lambda rig: work_rise(rig, pose, other))):
                corners = [ask(rig) for rig in rigs]
                self.same(told, (min(corners, key=frac), max(corners, key=frac)))
                for rig in middle:
                    self.assertTrue(frac(told[0]) <= frac(ask(rig)) <= frac(told[1]))


class Matter(Case):
    def test_by_hand(self):
        self.same(numbers_that_matter(sample()), (0, 1, 2, 3))
        self.same(numbers_that_matter(Stretched.from_rig(balanced())), ())
        bars = ((MAST, qs("0 1"), 1), (0, qs("0 2"), 0), (0, ZERO, 2))
        # A mark on the mast below a weight alone, a mark on an upright bar, the amount of a weight on the mast: nothing.
        made = Stretched(bars, (((0, ONE), ONE), ((1, qs("0 3")), ONE), ((MAST, ONE), qs("0 4"))))
        self.same(numbers_that_matter(made), (1,))
        made = Stretched(bars, (((0, qs("0 3")), ONE),), (((0, ONE), (MAST, qs("0 4")), qs("0 5")),))
        self.same(numbers_that_matter(made), (0, 2, 3, 4))
        # The strength of a spring along one letter alone.
        self.same(numbers_that_matter(Stretched(bars[2:1] + ((MAST, ZERO, 1),), (), (((0, ONE), (0, q(2)), qs("0 1")),))), ())

    def test_some_numbers_are_enough(self):
        # The mark matters only where the amount is not 0.
        made = Stretched(((MAST, ZERO, 1),), (((0, qs("1 2")), qs("0 1")),))
        self.same(numbers_that_matter(made), (0, 1))

    def test_drawn(self):
        draws = Draws("matter")
        for _ in range(25):
            made = draw_stretched(draws)
            told = numbers_that_matter(made)
            for index in range(len(made)):
                if index not in told:
                    numbers = list(between(draws, made))
                    before = couplings_of(rig_at(made, numbers))
                    numbers[index] = made.stretches[index][draws.random.randint(0, 1)]
                    self.assertTrue(couplings_of(rig_at(made, numbers)) == before)
                else:
                    tables = [couplings_of(rig_by(made, choice)).numbers for choice in corner_choices(made)]
                    step = 2 ** (len(made) - 1 - index)
                    self.assertTrue(any(tables[at] != tables[at + step] for at in range(len(tables))
                                        if not at & step))


class Still(Case):
    def test_by_hand(self):
        self.assertIsNone(all_still(Stretched.from_rig(balanced())))
        told = all_still(sample())
        self.assertIs(type(told), Stirred)
        self.same(told.choice, (0, 0, 0, 0))
        self.same(vars(told.push), {"letter": 1, "pose": (LEFT, UP), "push": ONE})
        # Balanced by the low strength, not by the high one.
        made = Stretched(balanced().arms.bars, balanced().weights, (((MAST, q(4)), (0, ONE), qs("1/2 1")),))
        told = all_still(made)
        self.same((told.choice, told.push.push), ((1,), q(2)))
        # A rig that stays still whatever the mark on the mast of its bar and of the spring.
        self.assertIsNone(all_still(Stretched(((MAST, qs("-1 5"), 1),), (((MAST, qs("0 3")), qs("0 1")),))))

    def test_drawn(self):
        draws = Draws("still")
        for _ in range(25):
            made = draw_stretched(draws)
            told = all_still(made)
            for choice in corner_choices(made):
                rig = rig_by(made, choice)
                if told is not None and choice == told.choice:
                    self.assertTrue(told.push == still_or_push(rig))
                    self.assertIsNone(push_fault(rig, told.push))
                    break
                self.assertTrue(is_still(rig))
            if told is None:
                self.assertTrue(is_still(rig_at(made, between(draws, made))))

    def test_equality(self):
        told = all_still(sample())
        self.assertTrue(told == all_still(sample()))
        self.unlike_all(told, (Stirred((0, 0, 0, 1), told.push), Stirred(told.choice, None), Breach(told.choice, told.push),
                               None, (told.choice, told.push)))


class Held(Case):
    def test_least_brakes_for(self):
        # Letter 1 at the most 2 + 3, letter 2 at the most 5 + 3.
        self.same(least_brakes_for(sample()), qs("5 8"))
        self.same(least_brakes_for(Stretched.from_rig(balanced())), (ZERO,))

    def test_by_hand(self):
        self.assertIsNone(all_held(sample(), qs("5 8")))
        told = all_held(sample(), list(qs("5 79/10")))
        self.assertIs(type(told), Breach)
        self.same(told.choice, (0, 1, 0, 1))
        self.same(vars(told.slip), {"letter": 2, "pose": (DOWN, LEFT), "push": q(8)})
        told = all_held(sample(), qs("49/10 8"))
        self.same((told.choice, told.slip.letter, told.slip.push), ((1, 0, 0, 1), 1, q(5)))
        # With letter 1 pinned up letter 2 is pushed by b - 2 s - 3 t at the most.
        self.assertIsNone(all_held(sample(), qs("0 5"), pins=((1, UP),)))
        told = all_held(sample(), qs("0 49/10"), pins=[[1, list(UP)]])
        self.same(told.choice, (0, 0, 1, 1))
        self.same((told.slip.letter, told.slip.pose[0], told.slip.push), (2, UP, q(5)))
        self.assertIsNone(all_held(sample(), qs("0 0"), pins=((1, UP), (2, LEFT))))

    def test_slips_are_those_of_slip_of(self):
        draws = Draws("slips at corners")
        for _ in range(25):
            made = draw_stretched(draws)
            brakes = tuple(draws.positive() for _ in range(made.letters))
            told = all_held(made, brakes)
            if told is None:
                self.assertTrue(is_held(rig_at(made, between(draws, made)), brakes))
            else:
                self.assertTrue(told.slip == slip_of(rig_by(made, told.choice), brakes))
                self.assertTrue(told.slip == all_held(made, brakes, pins=[]).slip)

    def test_drawn(self):
        draws = Draws("held")
        breaches = 0
        for _ in range(50):
            made = draw_stretched(draws, 3)
            arms = rig_at(made, made.middle).arms
            pins = draw_pins(draws, arms)
            brakes = tuple(q(draws.random.randint(1, 40)) for _ in range(made.letters))
            told = all_held(made, brakes, pins=pins)
            for choice in corner_choices(made):
                rig = rig_by(made, choice)
                if told is not None and choice == told.choice:
                    breaches += 1
                    self.assertFalse(is_held_pinned(rig, brakes, pins))
                    self.assertEqual(told.slip.letter, pinned_slip(rig, brakes, pins).letter)
                    self.assertIsNone(pinned_fault(rig, brakes, pins, told.slip))
                    self.assertIsNone(breach_fault(made, brakes, told, pins=pins))
                    break
                self.assertTrue(is_held_pinned(rig, brakes, pins))
            if told is None:
                self.assertTrue(is_held_pinned(rig_at(made, between(draws, made)), brakes, pins))
            least = least_brakes_for(made)
            self.assertIsNone(all_held(made, least))
            rows = [least_brakes(rig_by(made, choice)) for choice in corner_choices(made)]
            self.same(least, tuple(max(column, key=frac) for column in zip(*rows)))
        self.assertGreater(breaches, 10)

    def test_errors(self):
        breach = all_held(sample(), (ZERO, ZERO))
        for index, brakes in ((0, None), (1, (ONE,)), (2, (ONE,) * 3), (1, (ONE, q(-1)))):
            self.fails(BadBrakes, {"index": index}, all_held, sample(), brakes, pins=None)
            self.fails(BadBrakes, {"index": index}, breach_fault, sample(), brakes, breach, pins=None)
        for index, pins in ((0, None), (0, ((3, UP),)), (1, ((1, UP), (1, UP))), (0, ((1, None),))):
            self.fails(BadPins, {"index": index}, all_held, sample(), (ONE, ONE), pins=pins)
            self.fails(BadPins, {"index": index}, breach_fault, sample(), (ONE, ONE), Breach(None, None), pins=pins)


class Judging(Case):
    def fault(self, choice, slip, brakes="1 1", **named):
        return breach_fault(sample(), qs(brakes), Breach(choice, slip), **named)

    def test_right_papers(self):
        slip = Slips(2, (DOWN, LEFT), q(8))
        self.assertIsNone(self.fault((0, 1, 0, 1), slip))
        self.assertIsNone(self.fault([1, 1, 0, 1], slip))
        self.assertIsNone(self.fault((0, 1, 0, 1), Slips(2, (UP, LEFT), q(2)), pins=((1, UP),)))

    def test_choice(self):
        slip = Slips(2, (DOWN, LEFT), q(8))
        for choice in ODD_THINGS + ((), (0, 1, 0), (0, 1, 0, 1, 0), (0, True, 0, 1), (0, 1, 0, 2), (0, 1, 0, -1), (0, 1, 0, 1.0)):
            self.assertEqual(self.fault(choice, slip), "choice")
            self.assertEqual(self.fault(choice, None), "choice")

    def test_slip(self):
        choice = (0, 1, 0, 1)
        for letter in (0, 3, True, None, "2"):
            self.assertEqual(self.fault(choice, Slips(letter, None, None)), "letter")
        self.assertEqual(self.fault(choice, Slips(1, (UP, UP), ZERO), pins=((1, UP),)), "letter")
        self.assertEqual(self.fault(choice, None), "letter")
        self.assertEqual(self.fault(choice, Slips(2, (UP,), None), pins=((1, UP),)), "pose")
        self.assertEqual(self.fault(choice, Slips(2, (DOWN, LEFT), q(8)), pins=((1, UP),)), "pins")
        self.assertEqual(self.fault(choice, Slips(2, (DOWN, LEFT), q(7))), "push")
        self.assertEqual(self.fault((1, 1, 0, 0), Slips(2, (DOWN, LEFT), q(8))), "push")
        self.assertEqual(self.fault(choice, Slips(2, (DOWN, LEFT), q(8)), "0 8"), "held")
        self.assertIsNone(self.fault(choice, Slips(2, (UP, RIGHT), q(-2)), "0 1"))


if __name__ == "__main__":
    unittest.main()
