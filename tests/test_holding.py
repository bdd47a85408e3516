"""holding.py [7.8], [7.9]."""
import unittest
from fractions import Fraction

from stillarms.adjusters import NoSetting, Rule, Settings, rule_for, settings_for
from stillarms.brakes import least_brakes
from stillarms.couplings import Couplings, couplings_of, pair_product, pairs_of
from stillarms.errors import BadAmounts, BadBrakes, BadLoads, BadSlide
from stillarms.holding import LeastPush, NoFixed, WorstPush, fixed_settings, least_push, worst_push
from stillarms.ratios import ONE, ZERO
from stillarms.rigs import Rig
from stillarms.slides import check_settings, corner_amounts, corner_settings, rig_by_settings
from tests.cases import Case, Draws, balanced, frac, fracs, free, place, q, qs
from tests.test_adjusters import LOAD, MARK, AdjusterCase
from tests.test_brakes import BAD_BRAKES
from tests.test_slides import BAD_LOADS, BAD_SLIDES, LOADS, SLIDES, draw_case, sample


class FixedCase(AdjusterCase):
    def shares_suffice(self, letters, paper, brakes):
        self.assertIs(type(paper), NoSetting)
        self.assertIs(type(paper.table), Couplings)
        self.assertEqual(paper.table.letters, letters)
        if brakes is None:
            self.assertIsNone(paper.shares)
            return Fraction(0)
        self.assertIs(type(paper.shares), tuple)
        self.assertEqual(len(paper.shares), letters)
        shares = [Fraction(0)] + fracs(paper.shares)
        self.assertTrue(all(share >= 0 for share in shares))
        for (one, other), number in zip(pairs_of(letters), paper.table.numbers):
            self.assertLessEqual(abs(frac(number)), shares[one] + shares[other])
        return sum(share * frac(brake) for share, brake in zip(shares[1:], brakes))

    def judged(self, rig, loads, slides, brakes=None):
        """Whether one setting serves all loads, what shows it being right."""
        told = fixed_settings(rig, loads, slides, brakes=brakes)
        corners = list(corner_amounts(loads))
        if type(told) is Settings:
            for amounts in corners:
                self.settled(rig, loads, slides, amounts, told.row, brakes)
            return True
        self.assertIs(type(told), NoFixed)
        self.assertIs(type(told.row), tuple)
        self.assertEqual(len(told.row), len(corners))
        floor = sum(self.shares_suffice(rig.arms.letters, paper, brakes) for paper in told.row)
        for settings in corner_settings(slides):
            found = [couplings_of(rig_by_settings(rig, loads, slides, amounts, settings)) for amounts in corners]
            total = sum(frac(pair_product(paper.table, table)) for paper, table in zip(told.row, found))
            self.assertGreater(total, floor)
        return False


class Fixed(FixedCase):
    def test_by_hand(self):
        self.assertTrue(self.judged(balanced(), (), (MARK,)))
        self.same(fixed_settings(balanced(), (), (MARK,)).row, qs("4"))
        self.assertTrue(self.judged(balanced(), ((0, q(2), q(2)),), (MARK,)))
        self.same(fixed_settings(balanced(), [[0, q(2), q(2)]], [list(MARK)]).row, qs("8"))
        self.same(fixed_settings(balanced(), (), ()).row, ())
        self.assertFalse(self.judged(balanced(), ((0, q(2), q(2)),), ()))
        self.assertTrue(self.judged(balanced(), LOAD, (MARK,), qs("3")))
        self.same(fixed_settings(balanced(), LOAD, (MARK,), brakes=list(qs("3"))).row, qs("6"))

    def test_each_corner_but_no_one_setting(self):
        self.assertIs(type(rule_for(balanced(), LOAD, (MARK,))), Rule)
        self.assertFalse(self.judged(balanced(), LOAD, (MARK,)))
        self.assertFalse(self.judged(balanced(), LOAD, (MARK,), qs("0")))
        self.assertFalse(self.judged(balanced(), LOAD, (MARK,), qs("299/100")))
        told = fixed_settings(balanced(), LOAD, (MARK,))
        # Neither paper alone shows it.
        for amounts, paper in zip(corner_amounts(LOAD), told.row):
            self.assertRaises(AssertionError, self.unsettled, balanced(), LOAD, (MARK,), amounts, paper)

    def test_a_load_that_nobody_feels(self):
        rig = Rig(free(1), ((place(0, 0), ONE), (place(0, 2), ONE)), balanced().springs)
        self.assertTrue(self.judged(rig, ((0, ZERO, q(9)),), ()))
        self.assertFalse(self.judged(rig, ((1, ZERO, q(9)),), ()))

    def test_drawn(self):
        draws = Draws("fixed settings")
        count = {True: 0, False: 0}
        for turn in range(150):
            rig, loads, slides = draw_case(draws)
            brakes = None if turn % 5 == 0 else tuple(q(draws.random.randint(0, 60)) for _ in range(rig.arms.letters))
            count[self.judged(rig, loads[:1], slides, brakes)] += 1
        self.assertTrue(all(many > 30 for many in count.values()), count)

    def test_brakes_that_just_suffice_at_each_corner(self):
        draws = Draws("brakes for each corner")
        count = {True: 0, False: 0}
        for _ in range(60):
            arms = free(draws.random.randint(1, 3))
            springs = [((-1, ONE), draws.small_place(arms), ONE), (draws.small_place(arms), draws.small_place(arms), ONE)]
            rig = Rig(arms, (((0, ONE), ONE), (draws.small_place(arms), ONE)), springs)
            loads = ((0, ZERO, q(draws.random.randint(0, 4))),)
            slides = (("end", 0, 0, q(draws.random.randint(-3, 0)), q(draws.random.randint(0, 3))),)
            brakes = (worst_push(rig, loads, slides).least.value,) * rig.arms.letters
            for amounts in corner_amounts(loads):
                self.assertIs(type(settings_for(rig, loads, slides, amounts, brakes=brakes)), Settings)
            count[self.judged(rig, loads, slides, brakes)] += 1
        self.assertTrue(all(many > 2 for many in count.values()), count)

    def test_errors(self):
        rig = sample()
        for index, what, loads in BAD_LOADS:
            two = isinstance(loads, (list, tuple)) and len(loads) > 1
            told = {"index": 0, "what": "many"} if two else {"index": index, "what": what}
            self.fails(BadLoads, told, fixed_settings, rig, loads, None, brakes=1)
        self.fails(BadLoads, {"index": 0, "what": "many"}, fixed_settings, rig, LOADS, None)
        self.fails(BadLoads, {"index": 0, "what": "many"}, fixed_settings, rig, (None, None), None)
        for index, what, slides in BAD_SLIDES:
            if what != "taken":
                self.fails(BadSlide, {"index": index, "what": what}, fixed_settings, rig, LOADS[:1], slides, brakes=1)
        self.fails(BadSlide, {"index": 0, "what": "taken"}, fixed_settings, rig, LOADS[:1], (("mark", 0, ZERO, ONE),), brakes=1)
        for index, brakes in BAD_BRAKES:
            if brakes is not None:
                self.fails(BadBrakes, {"index": index}, fixed_settings, rig, LOADS[:1], SLIDES, brakes=brakes)


class PushCase(Case):
    def judged(self, rig, loads, slides, amounts, told):
        self.assertIs(type(told), LeastPush)
        self.assertIs(type(told.row), tuple)
        self.same(check_settings(slides, told.row), told.row)
        value = frac(told.value)
        pushes = fracs(least_brakes(rig_by_settings(rig, loads, slides, amounts, told.row)))
        self.assertLessEqual(max(pushes), value)
        self.assertIs(type(told.table), Couplings)
        self.assertIs(type(told.shares), tuple)
        letters = rig.arms.letters
        self.assertEqual((told.table.letters, len(told.shares)), (letters, letters))
        shares = [Fraction(0)] + fracs(told.shares)
        self.assertTrue(all(share >= 0 for share in shares))
        self.assertLessEqual(sum(shares), 1)
        for (one, other), number in zip(pairs_of(letters), told.table.numbers):
            self.assertLessEqual(abs(frac(number)), shares[one] + shares[other])
        sums = [frac(pair_product(told.table, couplings_of(rig_by_settings(rig, loads, slides, amounts, settings))))
                for settings in corner_settings(slides)]
        self.assertEqual(min(sums), value)


class Pushes(PushCase):
    def told(self, rig, loads, slides, amounts):
        told = least_push(rig, loads, slides, amounts)
        self.judged(rig, loads, slides, amounts, told)
        return told

    def test_by_hand(self):
        self.same(self.told(balanced(), (), (), ()).value, ZERO)
        self.same(self.told(balanced().bare(), (), (), ()).value, q(2))
        self.same(self.told(balanced(), LOAD, (), qs("0")).value, q(2))
        self.same(self.told(balanced(), LOAD, (MARK,), qs("3")).value, ZERO)
        told = self.told(balanced(), LOAD, (("end", 0, 0, ZERO, q(11)),), qs("3"))
        self.same((told.value, told.row), (q("1/2"), qs("11")))
        self.same(least_push(balanced(), [list(LOAD[0])], [["end", 0, 0, ZERO, q(11)]], list(qs("3"))).row, qs("11"))

    def test_shares_of_two_letters(self):
        # Both letters are pushed by what couples them, and one setting moves both.
        rig = Rig(free(2), ((place(0, 3), ONE), (place(1, 1), ONE)), ())
        told = self.told(rig, (), (("mark", 0, ONE, q(2)),), ())
        self.same((told.value, told.row), (q(1), qs("1")))
        rig = Rig(free(2), ((place(0, 3), ONE), (place(1, 1), ONE)), ((place(0, 1), place(1, 1), q(2)),))
        told = self.told(rig, (), (("strength", 0, ZERO, q(9)),), ())
        self.same((told.value, told.row), (q(3), qs("0")))

    def test_drawn(self):
        draws = Draws("least pushes")
        noughts = 0
        for _ in range(120):
            rig, loads, slides = draw_case(draws)
            amounts = draws.random.choice(list(corner_amounts(loads)))
            told = self.told(rig, loads, slides, amounts)
            still = type(settings_for(rig, loads, slides, amounts)) is Settings
            self.assertEqual(told.value == ZERO, still)
            noughts += still
            # With such brakes the rig can be settled, with any less not.
            brakes = (told.value,) * rig.arms.letters
            self.assertIs(type(settings_for(rig, loads, slides, amounts, brakes=brakes)), Settings)
            if not still:
                brakes = (q(frac(told.value) * Fraction(999, 1000)),) * rig.arms.letters
                self.assertIs(type(settings_for(rig, loads, slides, amounts, brakes=brakes)), NoSetting)
        self.assertGreater(noughts, 5)

    def test_worst_by_hand(self):
        short = ("end", 0, 0, q(2), q(11))
        told = worst_push(balanced(), LOAD, (short,))
        self.assertIs(type(told), WorstPush)
        # At 0 the mark 2 pushes with 1, at 3 the mark 11 leaves 1/2.
        self.same((told.amounts, told.least.value), (qs("0"), q(1)))
        self.judged(balanced(), LOAD, (short,), told.amounts, told.least)
        told = worst_push(balanced(), LOAD, (("end", 0, 0, q(1), q(10)),))
        self.same((told.amounts, told.least.value), (qs("3"), q(1)))

    def test_first_of_several_alike(self):
        told = worst_push(balanced(), LOAD, (("end", 0, 0, q(1), q(11)),))
        self.same((told.amounts, told.least.value), (qs("0"), q("1/2")))
        self.same(worst_push(balanced(), LOAD, (MARK,)).amounts, qs("0"))
        self.same(worst_push(balanced(), (), ()).amounts, ())
        rig = Rig(free(1), ((place(0, 1), ONE), (place(0, -1), ONE)), ())
        loads = ((0, ZERO, q(2)), (1, ZERO, q(2)))
        self.same(worst_push(rig, loads, ()).amounts, qs("0 2"))

    def test_worst_drawn(self):
        draws = Draws("worst pushes")
        for _ in range(40):
            rig, loads, slides = draw_case(draws)
            told = worst_push(rig, loads, slides)
            self.judged(rig, loads, slides, told.amounts, told.least)
            corners = list(corner_amounts(loads))
            values = [frac(least_push(rig, loads, slides, amounts).value) for amounts in corners]
            self.assertEqual(frac(told.least.value), max(values))
            self.same(told.amounts, corners[values.index(max(values))])

    def test_errors(self):
        rig = sample()
        for index, what, loads in BAD_LOADS:
            told = {"index": index, "what": what}
            self.fails(BadLoads, told, least_push, rig, loads, None, None)
            self.fails(BadLoads, told, worst_push, rig, loads, None)
        for index, what, slides in BAD_SLIDES:
            told = {"index": index, "what": what}
            self.fails(BadSlide, told, least_push, rig, LOADS, slides, None)
            self.fails(BadSlide, told, worst_push, rig, LOADS, slides)
        for amounts in (None, (), qs("0"), qs("4 1/2"), qs("0 1/2 0"), (0, q("1/2"))):
            self.fails(BadAmounts, {}, least_push, rig, LOADS, SLIDES, amounts)

    def test_equality(self):
        table = Couplings((qs("1"),))
        least = LeastPush(ONE, (), table, qs("1"))
        for made, like, others in (
                (NoFixed((1,)), NoFixed((1,)), (NoFixed(()), Settings((1,)), (1,))),
                (least, LeastPush(ONE, (), Couplings((qs("1"),)), qs("1")),
                 (LeastPush(ZERO, (), table, qs("1")), LeastPush(ONE, (ONE,), table, qs("1")), LeastPush(ONE, (), None, qs("1")),
                  LeastPush(ONE, (), table, qs("0")), None)),
                (WorstPush((), least), WorstPush((), least), (WorstPush((ONE,), least), WorstPush((), None), least))):
            self.assertTrue(made == like)
            self.unlike_all(made, others)


if __name__ == "__main__":
    unittest.main()
