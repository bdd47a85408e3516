"""pooljudge.py [6.8], [6.9]; its BadPool is tested with pools.py."""
import unittest

from stillarms.couplings import couplings_by, zero_couplings
from stillarms.errors import BadRig, BadStrengths, OtherLetters
from stillarms.pooljudge import least_strength_fault, stills_fault, wished_fault, with_strengths
from stillarms.pools import LeastStrengths, NoStrengths, Strengths
from stillarms.ratios import ONE, ZERO
from stillarms.rigs import Rig
from stillarms.stillness import is_still
from tests.cases import MAST, NO_RATIOS, ODD_THINGS, Case, balanced, lamp, lamp_rig, place, q, qs

# Spans with the couplings -4, -8 and 4 on one bar.
POOL = ((place(MAST, 4), place(0, 1)), (place(MAST, 4), place(0, 2)), (place(MAST, -4), place(0, 1)))


def loaded():
    """A bar whose weight has the coupling 2."""
    return balanced().bare()


def table(*numbers):
    letters = {1: 1, 3: 2, 6: 3, 10: 4}[len(numbers)]
    return couplings_by(letters, [q(number) for number in numbers])


class WithStrengths(Case):
    def test_order_and_zeros(self):
        rig = balanced()
        told = with_strengths(rig, POOL, qs("1 0 2/3"))
        self.assertTrue(told == Rig(rig.arms, rig.weights, rig.springs + (POOL[0] + (ONE,), POOL[2] + (q("2/3"),))))
        self.assertTrue(with_strengths(rig, [list(span) for span in POOL], list(qs("1 0 2/3"))) == told)
        self.assertTrue(with_strengths(rig, POOL, (ZERO,) * 3) == rig)
        self.assertTrue(with_strengths(rig, (), ()) == rig)
        self.assertTrue(is_still(with_strengths(loaded(), POOL, qs("1/2 0 0"))))
        self.assertFalse(is_still(with_strengths(loaded(), POOL, qs("1/2 1 0"))))

    def test_bad_strengths(self):
        for index, row in tuple((0, thing) for thing in ODD_THINGS) + (
                (0, ()), (0, (ONE, ONE)), (0, (ONE,) * 4), (0, (ONE, q(-1), ONE, ONE)), (0, (None,) * 2), (0, "111"), (0, range(3)),
                (1, (ONE, q("-1/9"), None)), (2, [ZERO, ZERO, None]), (0, (1, ONE, ONE)), (2, (ONE, ONE, q(-1)))):
            self.fails(BadStrengths, {"index": index}, with_strengths, balanced(), POOL, row)
        for thing in NO_RATIOS + (q(-1),):
            self.fails(BadStrengths, {"index": 1}, with_strengths, balanced(), POOL, (ONE, thing, None))
        self.fails(BadStrengths, {"index": 0}, with_strengths, balanced(), (), (ONE,))

    def test_bad_rig(self):
        rig = Rig(balanced().arms, (), balanced().springs * 11)
        self.assertEqual(len(with_strengths(rig, POOL, qs("0 1 0")).springs), 12)
        self.fails(BadRig, {"index": 0, "what": "springs"}, with_strengths, rig, POOL, qs("1 0 1"))
        self.fails(BadStrengths, {"index": 1}, with_strengths, rig, POOL, (ONE, None, ONE))


class JudgingStills(Case):
    def fault(self, row, rig=None):
        return stills_fault(rig or loaded(), POOL, Strengths(row))

    def against(self, told, rig=None):
        return stills_fault(rig or balanced().with_strength(0, q("1/4")), POOL[:2], NoStrengths(told))

    def test_right(self):
        # Strengths need not be few.
        for row in ("1/2 0 0", "0 1/4 0", "1/4 1/8 0", "3/2 0 1", "1 1 5/2"):
            self.assertIsNone(self.fault(qs(row)))
            self.assertIsNone(self.fault(list(qs(row))))
        self.assertIsNone(self.fault((ZERO,) * 3, balanced()))
        self.assertIsNone(stills_fault(balanced(), (), Strengths([])))
        # The coupling is -2: no span has one above 0.
        for number in (-1, "-1/9"):
            self.assertIsNone(self.against(table(number), balanced().with_strength(0, ONE)))

    def test_many(self):
        for row in ("", "1/2 0", "1/2 0 0 0", "-1 -1"):
            self.assertEqual(self.fault(qs(row)), "many")

    def test_below(self):
        for row in ("-1/2 1/2 0", "1/2 1/2 -1/9", "0 0 -1/2"):
            self.assertEqual(self.fault(qs(row)), "below")

    def test_still(self):
        for row in ("0 0 0", "1/2 0 1", "1/2 1/9 0"):
            self.assertEqual(self.fault(qs(row)), "still")
        self.assertEqual(self.fault(qs("1/2 0 0"), balanced()), "still")

    def test_many_springs(self):
        rig = Rig(balanced().arms, (), balanced().springs * 12)
        self.assertIsNone(stills_fault(rig, POOL, Strengths(qs("1 1 9"))))

    def test_letters(self):
        for told in (table(0, 0, 0), table(*[-1] * 6), zero_couplings(4)):
            self.assertEqual(self.against(told), "letters")
        self.assertEqual(stills_fault(lamp_rig(), (), NoStrengths(table(1))), "letters")

    def test_span(self):
        # Of a wrong sign for the spans, and for the rig as well or not.
        self.assertEqual(self.against(table(1), loaded()), "span")
        self.assertEqual(self.against(table("1/9"), balanced().with_strength(0, ONE)), "span")
        rig = Rig(lamp(), ((place(1, 2), ONE),))
        pool = ((place(MAST, 1), place(1, 1)), (place(0, 1), place(1, 1)))
        # The tables of the spans are -2, -1, 2 and 0, 0, 1.
        self.assertEqual(stills_fault(rig, pool, NoStrengths(table(1, 0, 0))), "span")
        self.assertEqual(stills_fault(rig, pool, NoStrengths(table(0, 0, -1))), "span")
        self.assertIsNone(stills_fault(rig, pool, NoStrengths(table(1, 0, 1))))

    def test_rig(self):
        self.assertEqual(self.against(table(0), balanced().with_strength(0, ONE)), "rig")
        self.assertEqual(self.against(table(-1)), "rig")
        self.assertEqual(self.against(table(-1), balanced()), "rig")
        self.assertEqual(stills_fault(balanced(), (), NoStrengths(table(7))), "rig")


class JudgingWishes(Case):
    def fault(self, row, wish):
        return wished_fault(balanced().arms, POOL, table(wish), Strengths(qs(row)))

    def against(self, told, wish):
        return wished_fault(balanced().arms, POOL[:2], table(wish), NoStrengths(told))

    def test_right(self):
        for row, wish in (("1/2 0 0", -2), ("0 1/4 0", -2), ("0 0 1", 4), ("2 0 1", -4), ("0 0 0", 0), ("1 0 1", 0)):
            self.assertIsNone(self.fault(row, wish))
        self.assertIsNone(self.against(table(-1), 3))
        self.assertIsNone(wished_fault(balanced().arms, (), table(3), NoStrengths(table("-1/7"))))

    def test_words_of_strengths(self):
        self.assertEqual(self.fault("1/2 0", 9), "many")
        self.assertEqual(self.fault("-1 -1", 9), "many")
        self.assertEqual(self.fault("-1/2 1/2 0", 9), "below")
        self.assertEqual(self.fault("1/2 0 0", 2), "made")
        self.assertEqual(self.fault("0 0 0", "1/9"), "made")

    def test_words_of_tables(self):
        self.assertEqual(self.against(table(0, 0, 0), 3), "letters")
        self.assertEqual(self.against(table(1), 3), "span")
        self.assertEqual(self.against(table(1), -3), "span")
        self.assertEqual(self.against(table(0), 3), "wish")
        self.assertEqual(self.against(table(-1), 0), "wish")
        self.assertEqual(self.against(table(-1), -3), "wish")

    def test_other_letters(self):
        for told in (Strengths(()), NoStrengths(table(1))):
            self.fails(OtherLetters, {}, wished_fault, lamp(), (), table(1), told)


class JudgingLeast(Case):
    """The least is 1/4, by the second span alone, which the table -1/8 shows."""

    def fault(self, value, row, *numbers):
        return least_strength_fault(loaded(), POOL, LeastStrengths(q(value), qs(row), table(*numbers)))

    def test_right(self):
        self.assertIsNone(self.fault("1/4", "0 1/4 0", "-1/8"))
        self.assertIsNone(least_strength_fault(loaded(), [list(span) for span in POOL],
                                               LeastStrengths(q("1/4"), list(qs("0 1/4 0")), table("-1/8"))))
        self.assertIsNone(least_strength_fault(balanced(), (), LeastStrengths(ZERO, (), table(5))))
        self.assertIsNone(least_strength_fault(balanced(), POOL, LeastStrengths(ZERO, (ZERO,) * 3, table("1/4"))))

    def test_words(self):
        self.assertEqual(self.fault(9, "0 -1/4", 0, 0, 0), "many")
        self.assertEqual(self.fault(9, "-1 0 0", 0, 0, 0), "below")
        self.assertEqual(self.fault(9, "0 0 0", 0, 0, 0), "still")
        self.assertEqual(self.fault(9, "0 1/4 0", 0, 0, 0), "value")
        self.assertEqual(self.fault("1/4", "1/2 0 0", 9), "value")
        self.assertEqual(self.fault("1/4", "0 1/4 0", 0, 0, 0), "letters")
        self.assertEqual(self.fault("1/2", "1/2 0 0", -9), "span")
        self.assertEqual(self.fault("1/2", "1/2 0 0", "-1/4"), "span")
        self.assertEqual(self.fault("1/4", "0 1/4 0", "1/3"), "span")
        self.assertEqual(self.fault("1/4", "0 1/4 0", 0), "rig")
        self.assertEqual(self.fault("1/2", "1/2 0 0", "-1/8"), "rig")
        self.assertEqual(self.fault("1/4", "0 1/4 0", "1/8"), "rig")


if __name__ == "__main__":
    unittest.main()
