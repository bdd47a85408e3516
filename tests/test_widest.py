"""widest.py [7.7]."""
import unittest
from fractions import Fraction

from stillarms.adjusters import NoSetting, Settings, settings_for
from stillarms.errors import BadBrakes, BadSlide, NoSuch
from stillarms.ratios import ONE, ZERO
from stillarms.rigs import Rig
from stillarms.widest import Widest, widest_load
from tests.cases import MAST, ODD_THINGS, Draws, balanced, frac, free, place, q, qs
from tests.test_adjusters import MARK, AdjusterCase
from tests.test_brakes import BAD_BRAKES
from tests.test_slides import BAD_SLIDES, draw_case, sample


class WidestCase(AdjusterCase):
    def at(self, rig, weight, slides, amount, brakes):
        """Whether the rig can be settled at this amount."""
        loads = ((weight, amount, amount),)
        return type(settings_for(rig, loads, slides, (amount,), brakes=brakes)) is Settings

    def shows(self, rig, weight, slides, amount, paper, brakes):
        loads = ((weight, amount, amount),)
        self.unsettled(rig, loads, slides, (amount,), paper, brakes)

    def judged(self, rig, weight, slides, brakes=None):
        """Judges what is told and returns it."""
        told = widest_load(rig, weight, slides, brakes=brakes)
        if type(told) is NoSetting:
            for text in ("0", "1/7", "1", "30", "1000000"):
                self.assertFalse(self.at(rig, weight, slides, q(text), brakes))
                self.shows(rig, weight, slides, q(text), told, brakes)
            return told
        self.assertIs(type(told), Widest)
        low = frac(told.low)
        ends = [told.low] if told.high is None else [told.low, told.high, q((low + frac(told.high)) / 2)]
        for amount in ends + ([q(low + 12345)] if told.high is None else []):
            self.assertTrue(self.at(rig, weight, slides, amount, brakes))
        self.assertEqual(told.below is None, low == 0)
        self.assertEqual(told.beyond is None, told.high is None)
        if low:
            for amount in (Fraction(0), low / 2, low - low / 10 ** 9):
                self.assertFalse(self.at(rig, weight, slides, q(amount), brakes))
                self.shows(rig, weight, slides, q(amount), told.below, brakes)
            self.assertRaises(AssertionError, self.shows, rig, weight, slides, told.low, told.below, brakes)
        if told.high is not None:
            high = frac(told.high)
            for amount in (high + Fraction(1, 10 ** 9), high + 1, high + 10 ** 6):
                self.assertFalse(self.at(rig, weight, slides, q(amount), brakes))
                self.shows(rig, weight, slides, q(amount), told.beyond, brakes)
            self.assertRaises(AssertionError, self.shows, rig, weight, slides, told.high, told.beyond, brakes)
        return told


class ByHand(WidestCase):
    def test_ends(self):
        # The mark of the mast is 4 times the weight.
        for low, high, ends in (("0", "12", ("0", "3")), ("1", "11", ("1/4", "11/4")), ("-3", "2", ("0", "1/2")), ("5", "5", ("5/4", "5/4"))):
            told = self.judged(balanced(), 0, (("end", 0, 0, q(low), q(high)),))
            self.same((told.low, told.high), qs(" ".join(ends)))

    def test_none(self):
        self.assertIs(type(self.judged(balanced(), 0, (("end", 0, 0, q(-9), q("-1/9")),))), NoSetting)
        self.assertIs(type(self.judged(balanced(), 0, (("end", 0, 0, q(-9), q(-1)),), qs("1/3"))), NoSetting)
        self.assertIs(type(self.judged(balanced(), 0, (("end", 0, 0, q(-9), q(-1)),), qs("1/2"))), Widest)

    def test_only_0(self):
        told = self.judged(balanced(), 0, (("end", 0, 0, q(-3), ZERO),))
        self.same((told.low, told.high), (ZERO, ZERO))

    def test_without_slides(self):
        told = self.judged(balanced(), 0, ())
        self.same((told.low, told.high), (ONE, ONE))
        # The amount that the rig has does not count.
        self.assertTrue(self.judged(balanced().with_amount(0, q(7)), 0, []) == told)

    def test_brakes(self):
        told = self.judged(balanced(), 0, (), qs("1"))
        self.same((told.low, told.high), qs("1/2 3/2"))
        told = self.judged(balanced(), 0, (), list(qs("2")))
        self.same((told.low, told.high), qs("0 2"))
        told = self.judged(balanced(), 0, (MARK,), qs("1/2"))
        self.same((told.low, told.high), qs("0 13/4"))
        noughts = self.judged(balanced(), 0, (MARK,), qs("0"))
        self.same((noughts.low, noughts.high), qs("0 3"))
        self.same(noughts.beyond.shares is None, False)

    def test_no_end(self):
        rig = Rig(free(2), ((place(MAST, 5), ONE), (place(0, 0), ONE), (place(1, 1), q(2))), ())
        for weight in (0, 1):
            self.assertIs(type(self.judged(rig, weight, ())), NoSetting)
            self.assertIs(type(self.judged(rig, weight, (), qs("9 1"))), NoSetting)
            told = self.judged(rig, weight, (), qs("0 2"))
            self.same(vars(told), {"low": ZERO, "high": None, "below": None, "beyond": None})
            told = self.judged(rig, weight, (("mark", 2, ZERO, ONE),))
            self.same((told.low, told.high), (ZERO, None))

    def test_balanced_by_another_weight(self):
        # The other weight's mark slides to the other side; both weights together are 0.
        rig = Rig(free(1), ((place(0, 1), ONE), (place(0, 1), q(2))), ())
        told = self.judged(rig, 0, (("mark", 1, q(-3), q("-1/2")),))
        self.same((told.low, told.high), qs("1 6"))


class Drawn(WidestCase):
    def test_drawn(self):
        draws = Draws("widest loads")
        count = {"none": 0, "no end": 0, "ends": 0, "low": 0}
        for turn in range(160):
            rig, loads, slides = draw_case(draws)
            taken = [slide[1] for slide in slides if slide[0] in ("mark", "amount")]
            weights = [number for number in range(len(rig.weights)) if number not in taken]
            if not weights:
                continue
            if turn % 2:
                slides = slides[:1]
            brakes = None if turn % 4 == 0 else tuple(q(draws.random.randint(0, 60)) for _ in range(rig.arms.letters))
            told = self.judged(rig, weights[0], slides, brakes)
            if type(told) is NoSetting:
                count["none"] += 1
                continue
            count["no end" if told.high is None else "ends"] += 1
            count["low"] += told.low != ZERO
            if told.high is None:
                self.assertTrue(all(number == ZERO for number in rig.weight_rows()[weights[0]][1:]))
        self.assertTrue(all(many >= 3 for many in count.values()), count)

    def test_errors(self):
        rig = sample()
        for weight in ODD_THINGS + (3, -1, ONE):
            self.fails(NoSuch, {"number": weight}, widest_load, rig, weight, None, brakes=5)
        for index, what, slides in BAD_SLIDES:
            # These are wrong beside loads of the weights 0 and 2; what is taken by weight 0 alone is tested below.
            if what != "taken":
                self.fails(BadSlide, {"index": index, "what": what}, widest_load, rig, 0, slides, brakes=5)
        for slides in ((("mark", 0, None, ONE),), (("amount", 0, ZERO, ONE),)):
            self.fails(BadSlide, {"index": 0, "what": "taken"}, widest_load, rig, 0, slides, brakes=5)
            self.assertRaises(BadBrakes, widest_load, rig, 1, (("mark", 0, ZERO, ONE),), brakes=5)
        for index, brakes in BAD_BRAKES:
            if brakes is not None:
                self.fails(BadBrakes, {"index": index}, widest_load, rig, 0, (), brakes=brakes)

    def test_equality(self):
        paper = NoSetting(None, None)
        made = Widest(ZERO, ONE, None, paper)
        self.assertTrue(made == Widest(ZERO, ONE, None, NoSetting(None, None)))
        self.unlike_all(made, (Widest(ONE, ONE, None, paper), Widest(ZERO, None, None, paper), Widest(ZERO, ONE, paper, paper),
                               Widest(ZERO, ONE, None, None), None, (ZERO, ONE)))


if __name__ == "__main__":
    unittest.main()
