"""adjusters.py [7.4] to [7.6]."""
import itertools
import unittest
from fractions import Fraction

from stillarms.adjusters import (NoRule, NoSetting, Rule, Settings, fewest_slides, needed_slides, rule_for,
                                 settings_for)
from stillarms.armtext import arm_text, arms_of
from stillarms.brakes import is_held
from stillarms.couplings import Couplings, couplings_of, pair_product, pairs_of, zero_couplings
from stillarms.errors import BadAmounts, BadBrakes, BadLoads, BadSlide
from stillarms.ratios import ONE, ZERO
from stillarms.rigs import Rig
from stillarms.rigtext import rig_of, rig_text
from stillarms.slides import check_settings, corner_amounts, corner_settings, rig_by_settings
from stillarms.stillness import is_still, same_feel
from tests.cases import MAST, Case, Draws, balanced, frac, fracs, free, lamp, place, q, qs, rank
from tests.test_brakes import BAD_BRAKES
from tests.test_slides import BAD_LOADS, BAD_SLIDES, LOADS, SLIDES, draw_case, sample

# The bar is balanced by the mark 4 of the mast for a weight of 1, and by a strength of 1/2.
LOAD = ((0, ZERO, q(3)),)
MARK = ("end", 0, 0, ZERO, q(12))
STRENGTH = ("strength", 0, ZERO, q(3))


class AdjusterCase(Case):
    def settled(self, rig, loads, slides, amounts, row, brakes=None):
        """The row has settings that settle the rig at these amounts."""
        self.assertIs(type(row), tuple)
        self.same(check_settings(slides, row), row)
        found = rig_by_settings(rig, loads, slides, amounts, row)
        self.assertTrue(is_still(found) if brakes is None else is_held(found, brakes))
        if brakes is None:
            self.assertIsNone(same_feel(found, Rig(rig.arms)))

    def unsettled(self, rig, loads, slides, amounts, told, brakes=None):
        self.assertIs(type(told), NoSetting)
        self.assertIs(type(told.table), Couplings)
        letters = rig.arms.letters
        self.assertEqual(told.table.letters, letters)
        floor = Fraction(0)
        if brakes is None:
            self.assertIsNone(told.shares)
        else:
            self.assertIs(type(told.shares), tuple)
            self.assertEqual(len(told.shares), letters)
            shares = [Fraction(0)] + fracs(told.shares)
            self.assertTrue(all(share >= 0 for share in shares))
            for (one, other), number in zip(pairs_of(letters), told.table.numbers):
                self.assertLessEqual(abs(frac(number)), shares[one] + shares[other])
            floor = sum(share * frac(brake) for share, brake in zip(shares[1:], brakes))
        # The sum is straight in the settings, so the corners have its least.
        for settings in corner_settings(slides):
            found = couplings_of(rig_by_settings(rig, loads, slides, amounts, settings))
            self.assertGreater(frac(pair_product(told.table, found)), floor)

    def either(self, rig, loads, slides, amounts, brakes=None):
        """Whether the rig can be settled, the paper being right."""
        told = settings_for(rig, loads, slides, amounts, brakes=brakes)
        if type(told) is Settings:
            self.settled(rig, loads, slides, amounts, told.row, brakes)
            return True
        self.unsettled(rig, loads, slides, amounts, told, brakes)
        return False


class SettingsFor(AdjusterCase):
    def test_still_by_hand(self):
        for amount, mark in (("0", "0"), ("1", "4"), ("3", "12"), ("3/4", "3")):
            told = settings_for(balanced(), LOAD, (MARK,), qs(amount))
            self.assertIs(type(told), Settings)
            self.same(vars(told), {"row": qs(mark)})
            self.same(settings_for(balanced(), [list(LOAD[0])], [list(MARK)], list(qs(amount))).row, qs(mark))
        self.same(settings_for(balanced(), LOAD, (STRENGTH,), qs("3")).row, qs("3/2"))
        self.same(settings_for(balanced(), (), (("amount", 0, ZERO, q(2)),), ()).row, qs("1"))
        self.same(settings_for(balanced(), (), (("mark", 0, q(-9), q(9)),), ()).row, qs("2"))
        self.same(settings_for(balanced(), (), (("end", 0, 1, q(-9), q(9)),), ()).row, qs("1"))

    def test_not_by_hand(self):
        short = ("end", 0, 0, ZERO, q(11))
        told = settings_for(balanced(), LOAD, (short,), qs("3"))
        self.unsettled(balanced(), LOAD, (short,), qs("3"), told)
        beyond = ("end", 0, 0, q(5), q(11))
        self.unsettled(balanced(), LOAD, (beyond,), qs("1"), settings_for(balanced(), LOAD, (beyond,), qs("1")))

    def test_without_slides(self):
        self.same(settings_for(balanced(), (), (), ()).row, ())
        self.same(settings_for(balanced(), LOAD, (), qs("1")).row, ())
        for amount in ("0", "3", "99/100"):
            self.unsettled(balanced(), LOAD, (), qs(amount), settings_for(balanced(), LOAD, (), qs(amount)))
        self.same(settings_for(balanced(), LOAD, (), qs("0"), brakes=qs("2")).row, ())
        self.unsettled(balanced(), LOAD, (), qs("0"), settings_for(balanced(), LOAD, (), qs("0"), brakes=qs("1")), qs("1"))

    def test_with_brakes(self):
        short = ("end", 0, 0, ZERO, q(11))
        # At 11 the weight of 3 still pushes with 6 - 11/2.
        for brake, held in (("1/2", True), ("49/100", False), ("0", False), ("7", True)):
            told = settings_for(balanced(), LOAD, (short,), qs("3"), brakes=list(qs(brake)))
            self.assertEqual(type(told) is Settings, held)
            self.assertEqual(self.either(balanced(), LOAD, (short,), qs("3"), qs(brake)), held)
        self.same(settings_for(balanced(), LOAD, (short,), qs("3"), brakes=qs("1/2")).row, qs("11"))

    def test_brakes_of_0_ask_the_same(self):
        draws = Draws("brakes of 0")
        for _ in range(40):
            rig, loads, slides = draw_case(draws)
            for amounts in corner_amounts(loads):
                noughts = (ZERO,) * rig.arms.letters
                still = self.either(rig, loads, slides, amounts)
                self.assertEqual(self.either(rig, loads, slides, amounts, noughts), still)

    def test_a_slide_of_one_setting(self):
        self.same(settings_for(balanced(), (), (("end", 0, 0, q(4), q(4)),), ()).row, qs("4"))
        fixed = (("end", 0, 0, q(5), q(5)),)
        self.unsettled(balanced(), (), fixed, (), settings_for(balanced(), (), fixed, ()))

    def test_drawn(self):
        draws = Draws("settings")
        count = {True: 0, False: 0}
        for _ in range(100):
            rig, loads, slides = draw_case(draws)
            amounts = draws.random.choice(list(corner_amounts(loads)))
            self.either(rig, loads, slides, amounts)
            brakes = tuple(q(draws.random.randint(0, 40)) for _ in range(rig.arms.letters))
            count[self.either(rig, loads, slides, amounts, brakes)] += 1
        self.assertTrue(all(many > 20 for many in count.values()), count)

    def test_sure_settings(self):
        # Rigs that are still at the drawn settings, so that settings are there to be found.
        draws = Draws("sure settings")
        for _ in range(40):
            rig, marks = still_rig(draws)
            slides = tuple(("end", number, 0, q(frac(mark) - draws.random.randint(0, 2)), q(frac(mark) + draws.random.randint(0, 2)))
                           for number, mark in enumerate(marks[:3]))
            self.assertTrue(self.either(rig, (), slides, ()))

    def test_errors(self):
        rig = sample()
        for index, what, loads in BAD_LOADS:
            told = {"index": index, "what": what}
            self.fails(BadLoads, told, settings_for, rig, loads, None, None, brakes=1)
            self.fails(BadLoads, told, rule_for, rig, loads, None, brakes=1)
            self.fails(BadLoads, told, fewest_slides, rig, loads, None, brakes=1)
            self.fails(BadLoads, told, needed_slides, rig, loads)
        for index, what, slides in BAD_SLIDES:
            told = {"index": index, "what": what}
            self.fails(BadSlide, told, settings_for, rig, LOADS, slides, None, brakes=1)
            self.fails(BadSlide, told, rule_for, rig, LOADS, slides, brakes=1)
            self.fails(BadSlide, told, fewest_slides, rig, LOADS, slides, brakes=1)
        for amounts in (None, (), qs("0"), qs("4 1/2"), qs("0 1/2 0"), (0, q("1/2"))):
            self.fails(BadAmounts, {}, settings_for, rig, LOADS, SLIDES, amounts, brakes=1)
        for index, brakes in BAD_BRAKES:
            if brakes is not None:
                self.fails(BadBrakes, {"index": index}, settings_for, rig, LOADS, SLIDES, qs("0 1/2"), brakes=brakes)
                self.fails(BadBrakes, {"index": index}, rule_for, rig, LOADS, SLIDES, brakes=brakes)
                self.fails(BadBrakes, {"index": index}, fewest_slides, rig, LOADS, SLIDES, brakes=brakes)


def spring_slides(slides):
    return tuple(slide for slide in slides if slide[0] in ("end", "strength"))


def still_rig(draws):
    """A still rig on bars about the foot of the mast, and the marks on the mast of its springs."""
    arms = free(draws.random.randint(1, 3))
    sides = [draws.random.choice((-2, -1, 1, 2)) for _ in range(arms.letters)]
    marks = [q(draws.random.choice((-2, -1, 1, 2))) for _ in sides]
    weights = [(place(bar, side), ONE) for bar, side in enumerate(sides)]
    # Each spring has the coupling - mark * (1 / mark) * side with letter 0.
    springs = [((MAST, mark), place(bar, (1 if side > 0 else -1) / frac(mark)), q(abs(side)))
               for bar, (side, mark) in enumerate(zip(sides, marks))]
    rig = Rig(arms, weights, springs)
    assert is_still(rig)
    return rig, marks


class Rules(AdjusterCase):
    def ruled(self, rig, loads, slides, told, brakes=None):
        self.assertIs(type(told), Rule)
        self.same(told.loads, tuple(tuple(load) for load in loads))
        self.same(told.corners, tuple(corner_amounts(loads)))
        self.assertIs(type(told.rows), tuple)
        self.assertEqual(len(told.rows), len(told.corners))
        for amounts, row in zip(told.corners, told.rows):
            self.settled(rig, loads, slides, amounts, row, brakes)
            self.same(told(amounts), row)

    def test_by_hand(self):
        told = rule_for(balanced(), LOAD, (MARK,))
        self.ruled(balanced(), LOAD, (MARK,), told)
        self.same(vars(told), {"loads": LOAD, "corners": (qs("0"), qs("3")), "rows": (qs("0"), qs("12"))})
        for amount, mark in (("0", "0"), ("1", "4"), ("3", "12"), ("1/3", "4/3"), ("299/100", "299/25")):
            self.same(told(qs(amount)), qs(mark))
            self.same(told(list(qs(amount))), qs(mark))

    def test_no_rule_by_hand(self):
        short = ("end", 0, 0, ZERO, q(11))
        told = rule_for(balanced(), [list(LOAD[0])], [list(short)])
        self.assertIs(type(told), NoRule)
        self.same(told.amounts, qs("3"))
        self.unsettled(balanced(), LOAD, (short,), qs("3"), told.why)
        self.ruled(balanced(), LOAD, (short,), rule_for(balanced(), LOAD, (short,), brakes=qs("1/2")), qs("1/2"))
        beyond = ("end", 0, 0, ONE, q(11))
        self.same(rule_for(balanced(), LOAD, (beyond,)).amounts, qs("0"))

    def test_no_loads(self):
        told = rule_for(balanced(), (), ())
        self.same(vars(told), {"loads": (), "corners": ((),), "rows": ((),)})
        self.same(told(()), ())
        self.same(rule_for(balanced().with_amount(0, q(2)), (), (MARK,))([]), qs("8"))
        self.same(rule_for(balanced().bare(), (), ()).amounts, ())

    def test_three_loads(self):
        rig = Rig(free(1), ((place(0, 1), ONE), (place(0, 2), ONE), (place(0, -1), ONE)), ((place(MAST, 1), place(0, 1), ONE),))
        loads = ((1, q(1), q(2)), (0, ZERO, q(4)), (2, ONE, ONE))
        slides = (("end", 0, 0, ZERO, q(9)),)
        told = rule_for(rig, loads, slides)
        self.ruled(rig, loads, slides, told)
        self.assertEqual(len(told.corners), 4)
        # The mark is what the weights have in all: twice the first load, the second, less 1.
        self.same(told(qs("3/2 1/3 1")), qs("7/3"))
        loads = loads[:2] + ((2, ZERO, ONE),)
        told = rule_for(rig, loads, slides)
        self.ruled(rig, loads, slides, told)
        self.assertEqual(len(told.corners), 8)
        self.same(told(qs("2 1/3 1/4")), qs("49/12"))

    def test_bad_amounts(self):
        told = rule_for(balanced(), LOAD, (MARK,))
        for amounts in (None, 5, "1", (), (1,), qs("1 1"), qs("-1/9"), qs("28/9"), ((True, 1),), {ONE: 1}, [None]):
            self.fails(BadAmounts, {}, told, amounts)
        self.fails(BadAmounts, {}, rule_for(balanced(), (), ()), (ONE,))

    def test_shares_of_corners(self):
        # A rule made by hand: the first load has one amount, so its corners are those of the others.
        loads = [[0, q(2), q(2)], [1, ZERO, q(4)], [2, ONE, q(2)]]
        corners = (qs("2 0 1"), qs("2 0 2"), qs("2 4 1"), qs("2 4 2"))
        told = Rule(loads, corners, (qs("1 0"), qs("10 0"), qs("100 0"), qs("1000 1")))
        self.same(told(qs("2 0 1")), qs("1 0"))
        self.same(told(qs("2 4 2")), qs("1000 1"))
        self.same(told(qs("2 1 1")), qs("103/4 0"))
        self.same(told(qs("2 1 5/4")), (q(Fraction(3, 4) * Fraction(3, 4) + Fraction(30, 16) + Fraction(300, 16) + Fraction(1000, 16)),
                                        q("1/16")))

    def test_drawn(self):
        draws = Draws("rules")
        count = {Rule: 0, NoRule: 0}
        for _ in range(60):
            rig, loads, slides = draw_case(draws)
            brakes = None if draws.random.random() < 0.2 else tuple(q(draws.random.randint(0, 60)) for _ in range(rig.arms.letters))
            told = rule_for(rig, loads, slides, brakes=brakes)
            count[type(told)] += 1
            corners = list(corner_amounts(loads))
            if type(told) is Rule:
                self.ruled(rig, loads, slides, told, brakes)
                for _ in range(3):
                    amounts = tuple(q(frac(low) + (frac(high) - frac(low)) * Fraction(draws.random.randint(0, 4), 4))
                                    for _, low, high in loads)
                    self.settled(rig, loads, slides, amounts, told(amounts), brakes)
                continue
            self.assertIs(type(told.amounts), tuple)
            for amounts in corners[:corners.index(told.amounts)]:
                self.assertIs(type(settings_for(rig, loads, slides, amounts, brakes=brakes)), Settings)
            self.unsettled(rig, loads, slides, told.amounts, told.why, brakes)
        self.assertTrue(all(many > 15 for many in count.values()), count)

    def test_rigs_of_the_same_feel(self):
        draws = Draws("rules of other rigs")
        for _ in range(20):
            rig, loads, slides = draw_case(draws)
            told = rule_for(rig, loads, slides)
            read = rig_of(arms_of(arm_text(rig.arms)), rig_text(rig))
            self.assertTrue(rule_for(read, loads, slides) == told)
            order = list(range(1, rig.arms.letters + 1))
            draws.random.shuffle(order)
            self.assertIs(type(rule_for(rig.renamed(order), loads, slides)), type(told))
            if type(told) is Rule:
                self.ruled(rig.renamed(order), loads, slides, told)

    def test_shifted_and_grown_rigs(self):
        draws = Draws("rules of moved rigs")
        step, size = q(3), q("5/2")
        count = {Rule: 0, NoRule: 0}
        for _ in range(40):
            rig, loads, slides = draw_case(draws)
            brakes = tuple(q(draws.random.randint(0, 60)) for _ in range(rig.arms.letters))
            told = rule_for(rig, loads, slides, brakes=brakes)
            count[type(told)] += 1
            shifted = tuple(self.moved(rig, slide, lambda mark, bar: q(frac(mark) + (frac(step) if bar == MAST else 0)))
                            for slide in slides)
            self.assertIs(type(rule_for(rig.shifted(step), loads, shifted, brakes=brakes)), type(told))
            # Without brakes a rig of another size can be settled alike: springs have its square, weights not.
            told = rule_for(Rig(rig.arms, (), rig.springs), (), spring_slides(slides))
            grown = tuple(self.moved(rig, slide, lambda mark, bar: q(frac(mark) * frac(size))) for slide in spring_slides(slides))
            self.assertIs(type(rule_for(Rig(rig.arms, (), rig.springs).grown(size), (), grown)), type(told))
        self.assertTrue(all(many > 8 for many in count.values()), count)

    def moved(self, rig, slide, move):
        """The slide with its marks moved as those of the rig, if it slides a mark."""
        if slide[0] == "end":
            bar = rig.springs[slide[1]][slide[2]][0]
        elif slide[0] == "mark":
            bar = rig.weights[slide[1]][0][0]
        else:
            return slide
        return slide[:-2] + (move(slide[-2], bar), move(slide[-1], bar))


class Fewest(AdjusterCase):
    def test_by_hand(self):
        rig = balanced()
        weight = ("amount", 0, ZERO, q(9))
        self.same(fewest_slides(rig, (), (MARK,)), ((),))
        self.same(fewest_slides(rig, (), ()), ((),))
        self.same(fewest_slides(rig, LOAD, (MARK,)), ((0,),))
        self.same(fewest_slides(rig, LOAD, [list(STRENGTH)]), ((0,),))
        self.same(fewest_slides(rig, LOAD, ()), ())
        self.same(fewest_slides(rig, LOAD, (("end", 0, 0, ZERO, q(11)),)), ())
        self.same(fewest_slides(rig, LOAD, (("end", 0, 0, ZERO, q(11)),), brakes=qs("1/2")), ((0,),))
        self.same(fewest_slides(rig, LOAD, (MARK,), brakes=qs("4")), ((),))
        self.same(fewest_slides(rig.with_amount(0, q(2)), (), (MARK, weight)), ((0,), (1,)))
        self.same(fewest_slides(rig.with_amount(0, q(2)), (), (weight, ("strength", 0, ZERO, q("9/10")))), ((0,),))

    def test_numbers_stay_as_the_rig_has_them(self):
        # The first slide is of use only at 4, where the rig has it.
        slides = (("end", 0, 0, q(4), q(5)), ("amount", 0, ZERO, ONE))
        self.same(fewest_slides(balanced(), (), slides), ((),))
        # The low of a slide that is taken away does not count, nor that it would settle the rig.
        rig = Rig(free(1), ((place(0, 2), ONE),), ((place(MAST, 1), place(0, 1), ONE), (place(MAST, 1), place(0, 1), ONE)))
        slides = (("end", 0, 0, ZERO, ZERO), ("end", 1, 0, ZERO, q(7)))
        self.same(fewest_slides(rig, (), slides), ((),))
        rig = rig.with_amount(0, q(2))
        self.same(fewest_slides(rig, (), slides), ((1,),))

    def test_lots_of_two(self):
        arms = free(2)
        rig = Rig(arms, ((place(0, 1), ONE), (place(1, 1), ONE)),
                  ((place(MAST, 1), place(0, 1), ONE), (place(MAST, 1), place(1, 1), ONE)))
        loads = ((0, ONE, q(2)), (1, ONE, q(3)))
        slides = (("end", 0, 0, ZERO, q(9)), ("strength", 1, ZERO, q(9)))
        self.same(fewest_slides(rig, loads, slides), ((0, 1),))
        self.same(fewest_slides(rig, loads[:1], slides), ((0,),))
        self.same(fewest_slides(rig, loads, slides, brakes=qs("1 0")), ((1,),))
        self.same(fewest_slides(rig, loads, slides[:1]), ())

    def test_drawn(self):
        draws = Draws("fewest slides")
        found = 0
        for _ in range(60):
            rig, loads, slides = draw_case(draws)
            brakes = None if draws.random.random() < 0.2 else tuple(q(draws.random.randint(0, 60)) for _ in range(rig.arms.letters))
            lots = [lot for size in range(len(slides) + 1) for lot in itertools.combinations(range(len(slides)), size)
                    if type(rule_for(rig, loads, [slides[index] for index in lot], brakes=brakes)) is Rule]
            told = fewest_slides(rig, loads, slides, brakes=brakes)
            self.same(told, tuple(lot for lot in lots if len(lot) == len(lots[0])))
            if told and brakes is None:
                found += 1
                self.assertGreaterEqual(len(told[0]), needed_slides(rig, loads))
        self.assertGreater(found, 0)


class Needed(Case):
    def test_by_hand(self):
        rig = Rig(lamp(), ((place(1, 2), ONE), (place(0, 1), ONE), (place(1, 0), ONE), (place(MAST, 5), ONE), (place(0, -7), ONE)))

        def needed(*weights):
            return needed_slides(rig, [(weight, ZERO, ONE) for weight in weights])

        self.assertEqual([needed(), needed(0), needed(1), needed(2), needed(3)], [0, 1, 1, 1, 0])
        self.assertEqual([needed(0, 1), needed(1, 2), needed(0, 3), needed(1, 2, 4), needed(0, 2, 4)], [2, 1, 1, 1, 2])
        # Loads of one amount do not count.
        self.assertEqual(needed_slides(rig, ((0, ONE, ONE), [1, ZERO, q("1/9")])), 1)
        self.assertEqual(needed_slides(rig, ((0, ZERO, ZERO), (1, ONE, ONE))), 0)
        self.assertEqual(needed_slides(rig, ()), 0)

    def test_drawn(self):
        draws = Draws("needed slides")
        seen = set()
        for _ in range(60):
            rig = Rig(draws.arms(), [])
            for _ in range(4):
                rig = rig.with_weight(draws.place(rig.arms), ONE)
            loads = [(weight, ZERO, q(draws.random.randint(0, 2))) for weight in draws.random.sample(range(4), 3)]
            rows = [rig.weight_rows()[weight][1:] for weight, _, high in loads if high != ZERO]
            seen.add(rank(rows))
            self.assertEqual(needed_slides(rig, loads), rank(rows))
        self.assertEqual(seen, {0, 1, 2, 3})


class Results(Case):
    def test_equality(self):
        row, table, other = qs("1 2"), zero_couplings(1), Couplings((qs("1"),))
        why = NoSetting(table, None)
        for made, like, others in (
                (Settings(row), Settings(row), (Settings(()), row, None)),
                (why, NoSetting(zero_couplings(1), None), (NoSetting(table, ()), NoSetting(other, None), Settings(table))),
                (Rule(LOAD, (row,), (row,)), Rule(LOAD, (row,), (row,)),
                 (Rule((), (row,), (row,)), Rule(LOAD, (), (row,)), Rule(LOAD, (row,), ()), None)),
                (NoRule(row, why), NoRule(row, NoSetting(table, None)), (NoRule((), why), NoRule(row, None), why))):
            self.assertTrue(made == like)
            self.unlike_all(made, others)


if __name__ == "__main__":
    unittest.main()
