"""stretches.py [5.5], [5.6]."""
import itertools
import unittest

from stillarms.arms import Arms
from stillarms.errors import BadArms, BadChoice, BadNumbers, BadRig, BadStretch
from stillarms.ratios import ONE, ZERO
from stillarms.rigs import Rig
from stillarms.stretches import Stretched, corner_choices, rig_at, rig_by
from tests.cases import MAST, NO_RATIOS, ODD_THINGS, Case, Draws, balanced, lamp_rig, q, qs

BARS = ((MAST, ZERO, 1), (0, qs("1 3"), 2))
WEIGHTS = (((1, q(2)), qs("0 4")), ((0, qs("-1 1/2")), ONE))
SPRINGS = (((MAST, qs("4 5")), (0, q(1)), qs("1/2 3")),)


def sample():
    """Five stretches: a bar's mark, an amount, a weight's mark, a spring's first mark and its strength."""
    return Stretched(BARS, WEIGHTS, SPRINGS)


def listed(rows):
    """The rows with lists in the place of tuples, but for ratios."""
    if isinstance(rows, tuple) and not (len(rows) == 2 and all(type(entry) is int for entry in rows)):
        return [listed(entry) for entry in rows]
    return rows


class Making(Case):
    def test_attributes(self):
        made = sample()
        self.same((made.bars, made.weights, made.springs), (BARS, WEIGHTS, SPRINGS))
        self.same(made.stretches, (qs("1 3"), qs("0 4"), qs("-1 1/2"), qs("4 5"), qs("1/2 3")))
        self.same((made.letters, len(made)), (2, 5))
        self.same(vars(made), {"letters": 2, "bars": BARS, "weights": WEIGHTS, "springs": SPRINGS,
                               "stretches": made.stretches})

    def test_order_of_stretches(self):
        made = Stretched((((MAST, qs("0 1"), 1)),), (((0, qs("0 2")), qs("0 3")),),
                         (((0, qs("0 4")), (MAST, qs("0 5")), qs("0 6")),))
        self.same(made.stretches, tuple(qs(f"0 {high}") for high in range(1, 7)))
        self.assertEqual(len(made), 6)

    def test_lists(self):
        made = Stretched(listed(BARS), listed(WEIGHTS), listed(SPRINGS))
        self.assertTrue(made == sample())
        self.same(vars(made), vars(sample()))

    def test_handed_lists_are_not_kept(self):
        bars, weights, springs = listed(BARS), listed(WEIGHTS), listed(SPRINGS)
        made = Stretched(bars, weights, springs)
        bars[1][1][0], weights[0][1][0], springs[0][0][1][1] = q(9), q(9), q(9)
        weights.clear()
        self.same(vars(made), vars(sample()))

    def test_without_a_stretch(self):
        made = Stretched(BARS[:1])
        self.same((made.bars, made.weights, made.springs, made.letters, made.stretches), (BARS[:1], (), (), 1, ()))
        self.assertEqual(len(made), 0)
        self.assertTrue(() in made)
        self.same(made.middle, ())
        self.same(list(corner_choices(made)), [()])
        self.assertTrue(rig_at(made, []) == Rig(Arms(BARS[:1])))
        self.assertTrue(rig_by(made, ()) == Rig(Arms(BARS[:1])))
        self.assertEqual(len(Stretched(BARS[:1], springs=[(((MAST, ZERO)), (0, qs("1 2")), ONE)])), 1)

    def test_most(self):
        self.assertEqual((Stretched.MOST, sample().MOST), (6, 6))
        bars = tuple((MAST, qs("0 1"), 1) for _ in range(6))
        self.assertEqual(len(Stretched(bars)), 6)
        self.fails(BadStretch, {"index": 0, "what": "many"}, Stretched, bars, (((0, qs("0 1")), ONE),))
        self.fails(BadStretch, {"index": 0, "what": "many"}, Stretched, bars, (((0, ONE), qs("0 1")),))
        # "many" comes before what is wrong with a stretch.
        self.fails(BadStretch, {"index": 0, "what": "many"}, Stretched, ((MAST, qs("1 0"), 1),) + bars[1:],
                   (((0, ONE), qs("0 1")),))

    def test_equality(self):
        self.assertTrue(sample() == sample())
        self.assertFalse(sample() != sample())
        others = (Stretched(((MAST, ONE, 1), BARS[1]), WEIGHTS, SPRINGS), Stretched(BARS, WEIGHTS[:1], SPRINGS),
                  Stretched(BARS, WEIGHTS[::-1], SPRINGS), Stretched(BARS, WEIGHTS), None, (BARS, WEIGHTS, SPRINGS),
                  Stretched(BARS, ((WEIGHTS[0][0], qs("0 5")), WEIGHTS[1]), SPRINGS))
        self.unlike_all(sample(), others)

    def test_middle(self):
        self.same(sample().middle, qs("2 2 -1/4 9/2 7/4"))

    def test_from_rig(self):
        draws = Draws("from rigs")
        for rig in [balanced(), lamp_rig()] + [draws.rig() for _ in range(10)]:
            made = Stretched.from_rig(rig)
            self.assertIs(type(made), Stretched)
            self.same((made.bars, made.weights, made.springs), (rig.arms.bars, rig.weights, rig.springs))
            self.same((made.letters, made.stretches), (rig.arms.letters, ()))
            self.assertTrue(rig_at(made, ()) == rig)


class Errors(Case):
    def test_errors_of_arms(self):
        for bars, index, what in ((None, 0, "many"), ((), 0, "many"), (BARS * 4, 0, "many"), ("12", 0, "many"),
                                  ((None,), 0, "bar"), (((MAST, qs("0 1")),), 0, "bar"), (((0, qs("0 1"), 1),), 0, "host"),
                                  ((BARS[0], (0, qs("1 2 3"), 2)), 1, "mark"), (((MAST, (ONE,), 1),), 0, "mark"),
                                  (((MAST, (ONE, (2, 4)), 1),), 0, "mark"), (((MAST, (0, 1, 2), 1),), 0, "mark"),
                                  (((MAST, (ONE, 1), 1),), 0, "mark"), (((MAST, [0, 1], 1),), 0, "mark"),
                                  (((MAST, {ONE: 1, ZERO: 2}, 1),), 0, "mark"), (((MAST, qs("0 1"), 5),), 0, "letter"),
                                  (((MAST, qs("0 1"), 2),), 0, "gap"), ((((0, qs("0 1"))),), 0, "bar"),
                                  (((MAST, qs("0 1"), 1, 1),), 0, "bar"), (((MAST, (0, ONE), 1),), 0, "mark"),
                                  (((MAST, ((2, 4), ONE), 1),), 0, "mark"), ((BARS[0], [MAST, [None, ONE], 2]), 1, "mark")):
            self.fails(BadArms, {"index": index, "what": what}, Stretched, bars)
            # They come before all others, stretches that are wrong too.
            self.fails(BadArms, {"index": index, "what": what}, Stretched, bars, None, None)
        self.fails(BadArms, {"index": 1, "what": "mark"}, Stretched, ((MAST, qs("1 0"), 1), (0, None, 2)))

    def test_errors_of_rigs(self):
        place = (0, ONE)
        for weights, index, what in ((None, 0, "weights"), (((place, ONE),) * 9, 0, "weights"), ((None,), 0, "weight"),
                                     ((place,), 0, "place"), (((place, ONE, ONE),), 0, "weight"),
                                     (((None, qs("0 1")),), 0, "place"), ((((9, qs("0 1")), ONE),), 0, "place"),
                                     ((((0, qs("0 1 2")), ONE),), 0, "place"), (((qs("0 1"), ONE),), 0, "place"),
                                     (((place, ONE), (place, ZERO)), 1, "amount"), (((place, [0, 1]),), 0, "amount"),
                                     (((place, qs("-1 0")),), 0, "amount"), (((place, qs("0 0")),), 0, "amount"),
                                     (((place, qs("1 -1")),), 0, "amount"), (((place, (ONE, 1)),), 0, "amount"),
                                     (((place, (0, ONE)),), 0, "amount"), (((place,),), 0, "weight"),
                                     ((((0,), ONE),), 0, "place"), ((((0, qs("0 1"), 1), ONE),), 0, "place"),
                                     ((((0, (1, ONE)), ONE),), 0, "place"), ((place + place,), 0, "weight")):
            self.fails(BadRig, {"index": index, "what": what}, Stretched, BARS, weights)
            self.fails(BadRig, {"index": index, "what": what}, Stretched, ((MAST, qs("2 1"), 1),), weights, None)
        for springs, index, what in ((None, 0, "springs"), (((place, place, ONE),) * 13, 0, "springs"),
                                     ((None,), 0, "spring"), (((place, place),), 0, "spring"),
                                     (((place, None, qs("0 1")),), 0, "end"), ((((0, (ONE,)), place, ONE),), 0, "end"),
                                     (((place, (0, qs("0 1") + (2,)), ONE),), 0, "end"),
                                     (((place, place, ONE), (place, place, ZERO)), 1, "strength"),
                                     (((place, place, qs("-1 0")),), 0, "strength"),
                                     (((place, place, None),), 0, "strength"), (((place, place, (1, ONE)),), 0, "strength"),
                                     (((place, (0,), ONE),), 0, "end"), ((((0, ((2, 4), ONE)), place, ONE),), 0, "end"),
                                     (((place, place, ONE, ONE),), 0, "spring"), (((place, place + (1,), ONE),), 0, "end")):
            self.fails(BadRig, {"index": index, "what": what}, Stretched, BARS, (), springs)
            self.fails(BadRig, {"index": index, "what": what}, Stretched, BARS, ((place, qs("2 1")),), springs)

    def test_order_and_below(self):
        place = (0, ONE)
        for index, what, bars, weights, springs in (
                (0, "order", ((MAST, qs("1 0"), 1),), (), ()), (0, "order", ((MAST, qs("1 1"), 1),), (), ()),
                (1, "order", ((MAST, qs("0 1"), 1), (0, [ONE, ONE], 1)), (), ()),
                (1, "order", BARS, ((place, qs("2 1")),), ()), (1, "order", BARS, ((place, qs("1/3 1/3")),), ()),
                (1, "below", BARS, ((place, qs("-1 1")),), ()), (2, "below", BARS, (((0, qs("-1 1")), qs("-1 1")),), ()),
                (1, "order", BARS, (((0, qs("1 1")), qs("-1 1")),), ()),
                (1, "order", BARS, (), (((0, qs("1 0")), place, ONE),)),
                (2, "order", BARS, (), (((0, qs("0 1")), (0, qs("1 0")), ONE),)),
                (3, "below", BARS, (), (((0, qs("0 1")), (0, qs("-2 -1")), qs("-1/9 1")),)),
                (1, "below", BARS, (), ((place, place, qs("-1/9 1")),)),
                (1, "below", BARS, ((place, qs("-1 1")),), ((place, place, qs("2 1")),))):
            self.fails(BadStretch, {"index": index, "what": what}, Stretched, bars, weights, springs)

    def test_below_0_is_let_for_marks(self):
        made = Stretched(((MAST, qs("-3 -2"), 1),), (((0, qs("-2 -1")), qs("0 1")),), (((0, q(-1)), (MAST, qs("-5 0")), ONE),))
        self.assertEqual(len(made), 4)


class Within(Case):
    def test_in(self):
        for numbers in (qs("1 0 -1 4 1/2"), qs("3 4 1/2 5 3"), qs("2 1/7 0 9/2 1"), list(qs("1 0 -1 4 1/2"))):
            self.assertIs(numbers in sample(), True)
        for numbers in ODD_THINGS + ((), qs("1 0 -1 4"), qs("1 0 -1 4 1/2 1"), qs("0 0 -1 4 1/2"), qs("1 -1/9 -1 4 1/2"),
                                     qs("1 0 -1 4 31/10"), qs("1 0 -1 4") + (1,), qs("1 0 -1 4") + ([1, 1],),
                                     ((True, 1),) + qs("0 -1 4 1/2"), {ONE: 1}, iter(qs("1 0 -1 4 1/2"))):
            self.assertIs(numbers in sample(), False)
        self.assertIs(sample().middle in sample(), True)


class Rigs(Case):
    def test_rig_at(self):
        rig = rig_at(sample(), list(qs("2 3 0 9/2 1")))
        self.assertTrue(rig == Rig(Arms((BARS[0], (0, q(2), 2))), (((1, q(2)), q(3)), ((0, ZERO), ONE)),
                                   (((MAST, q("9/2")), (0, ONE), ONE),)))
        self.assertIs(type(rig), Rig)

    def test_amounts_and_strengths_of_0(self):
        made = Stretched(BARS[:1], (((0, ONE), qs("0 1")), ((0, q(2)), ONE), ((0, q(3)), qs("0 1"))),
                         (((0, ONE), (MAST, q(7)), qs("0 2")), ((0, ONE), (MAST, q(8)), ONE)))
        rig = rig_at(made, qs("0 1 0"))
        self.same((rig.weights, rig.springs), ((((0, (2, 1)), (1, 1)), ((0, (3, 1)), (1, 1))),
                                               (((0, (1, 1)), (-1, (8, 1)), (1, 1)),)))
        self.assertEqual(len(rig_by(made, (0, 0, 0))), 2)
        self.assertEqual(len(rig_by(made, (1, 1, 1))), 5)
        self.assertEqual(len(rig_at(made, qs("1/9 1/9 1/9"))), 5)

    def test_each_stretch_has_its_place(self):
        made = Stretched((((MAST, qs("0 1"), 1)),), (((0, qs("0 2")), qs("0 3")),),
                         (((0, qs("0 4")), (MAST, qs("0 5")), qs("0 6")),))
        rig = rig_at(made, qs("1/7 2/7 3/7 4/7 5/7 6/7"))
        self.same((rig.arms.bars, rig.weights, rig.springs),
                  (((-1, (1, 7), 1),), (((0, (2, 7)), (3, 7)),), (((0, (4, 7)), (-1, (5, 7)), (6, 7)),)))

    def test_wrong_numbers(self):
        right = qs("1 0 -1 4 1/2")
        for index, numbers in ((0, None), (0, 5), (0, "12345"), (0, {}), (0, ()), (4, right[:4]), (5, right + (ONE,)),
                               (5, right + (None, None)), (0, qs("0 0 -1 4 1/2")), (1, qs("1 5 -1 4 1/2")),
                               (2, qs("1 0 -2 4 1/2")), (3, list(qs("1 0 -1 6 0"))), (4, qs("1 0 -1 4 0"))):
            self.fails(BadNumbers, {"index": index}, rig_at, sample(), numbers)
        for thing in NO_RATIOS:
            self.fails(BadNumbers, {"index": 0}, rig_at, sample(), (thing,))
            self.fails(BadNumbers, {"index": 3}, rig_at, sample(), right[:3] + (thing, None))

    def test_corner_choices(self):
        self.assertEqual(list(corner_choices(sample())), list(itertools.product((0, 1), repeat=5)))
        self.same(next(iter(corner_choices(sample()))), (0, 0, 0, 0, 0))
        one = Stretched(((MAST, qs("0 1"), 1),))
        self.same(list(corner_choices(one)), [(0,), (1,)])

    def test_rig_by(self):
        for choice in corner_choices(sample()):
            numbers = [stretch[end] for stretch, end in zip(sample().stretches, choice)]
            self.assertTrue(rig_by(sample(), choice) == rig_at(sample(), numbers))
            self.assertTrue(rig_by(sample(), list(choice)) == rig_at(sample(), numbers))

    def test_wrong_choices(self):
        for index, choice in ((0, None), (0, 1), (0, "01010"), (0, {}), (0, ()), (4, (0, 1, 0, 1)), (5, (0, 1, 0, 1, 0, 1)),
                              (5, [0, 1, 0, 1, 0, None, None]), (0, (2, 0, 0, 0, 0)), (1, (0, -1, 0, 0, 0)),
                              (2, (0, 0, True, 0, 0)), (3, (0, 0, 0, False, 0)), (4, (1, 1, 1, 1, 1.0)),
                              (4, (1, 1, 1, 1, ONE)), (0, (None, 2)), (0, range(5))):
            self.fails(BadChoice, {"index": index}, rig_by, sample(), choice)


if __name__ == "__main__":
    unittest.main()
