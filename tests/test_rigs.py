"""rigs.py [1.8] to [1.10]."""
import unittest

from stillarms.arms import Arms, grown_place
from stillarms.errors import BadOrder, BadRig, BadSize, NoSuch, OtherArms
from stillarms.ratios import ONE, ZERO
from stillarms.rigs import Rig
from tests.cases import MAST, NO_RATIOS, ODD_THINGS, Case, lamp, lamp_rig, q, qs, tree

NO_ROWS = ODD_THINGS + ("abc", b"abc", {0, 1}, range(3), {0: 1, 1: 2, 2: 3})
PLACE = (0, (1, 1))
WEIGHT = (PLACE, ONE)
SPRING = (PLACE, (MAST, (3, 1)), ONE)
NO_PLACES = ODD_THINGS + ((), (0,), (2, ONE), (-2, ONE), (True, ONE), (0, 1), (0, [1, 1]), (0, ONE, ONE), (0, (2, 2)))
NO_AMOUNTS = NO_RATIOS + qs("0 -1 -1/3")
NO_NUMBERS = (-1, 2, 7, None, True, False, 0.0, "0", (0,))


class MakingRigs(Case):
    def bad(self, index, what, weights=(), springs=()):
        self.fails(BadRig, {"index": index, "what": what}, Rig, lamp(), weights, springs)

    def test_attributes(self):
        rig = lamp_rig()
        self.assertTrue(rig.arms == lamp())
        self.same(rig.weights, (((1, (3, 1)), (2, 1)), ((0, (1, 1)), (1, 2))))
        self.same(rig.springs, (((-1, (4, 1)), (0, (1, 1)), (1, 2)), ((-1, (1, 1)), (1, (1, 1)), (3, 1))))
        self.assertEqual(len(rig), 4)
        empty = Rig(lamp())
        self.same((empty.weights, empty.springs, len(empty)), ((), (), 0))
        self.assertEqual(len(Rig(lamp(), [WEIGHT])), 1)
        self.assertEqual(len(Rig(lamp(), springs=[SPRING, SPRING])), 2)

    def test_lists_and_tuples(self):
        made = Rig(lamp(), [[[0, (1, 1)], (2, 1)]], [[[0, (1, 1)], [MAST, (3, 1)], (1, 2)]])
        self.same((made.weights, made.springs), ((((0, (1, 1)), (2, 1)),), (((0, (1, 1)), (-1, (3, 1)), (1, 2)),)))

    def test_handed_lists_are_not_kept(self):
        spot, weight, spring = [0, ONE], [[0, ONE], ONE], [[0, ONE], [MAST, ZERO], ONE]
        weights, springs = [weight, [spot, ONE]], [spring]
        rig = Rig(lamp(), weights, springs)
        before = (rig.weights, rig.springs)
        spot[0], weight[1], spring[0][0] = 1, q(9), 1
        weights.clear()
        springs.append(spring)
        self.same((rig.weights, rig.springs), before)
        self.same(before, ((((0, (1, 1)), (1, 1)), ((0, (1, 1)), (1, 1))), (((0, (1, 1)), (-1, (0, 1)), (1, 1)),)))

    def test_weights(self):
        for count in (0, 1, 7, 8):
            self.assertEqual(len(Rig(lamp(), [WEIGHT] * count).weights), count)
        for weights in NO_ROWS + ((WEIGHT,) * 9, [WEIGHT] * 9, [None] * 30):
            self.bad(0, "weights", weights)

    def test_weight(self):
        for weight in NO_ROWS + ((), (PLACE,), (PLACE, ONE, ONE), "ab"):
            self.bad(0, "weight", (weight,))
            self.bad(1, "weight", [WEIGHT, weight, None])

    def test_place_and_amount(self):
        for spot in NO_PLACES:
            self.bad(0, "place", ((spot, ONE),))
            self.bad(2, "place", [WEIGHT, WEIGHT, [spot, 0]])
        for amount in NO_AMOUNTS:
            self.bad(0, "amount", ((PLACE, amount),))
            self.bad(1, "amount", [WEIGHT, [PLACE, amount], (PLACE,)])
        for amount in qs("1/9 3"):
            self.assertEqual(Rig(lamp(), ((PLACE, amount),)).weights[0][1], amount)

    def test_springs(self):
        for count in (0, 1, 11, 12):
            self.assertEqual(len(Rig(lamp(), (), [SPRING] * count).springs), count)
        for springs in NO_ROWS + ((SPRING,) * 13, [SPRING] * 13, [None] * 30):
            self.bad(0, "springs", (), springs)

    def test_spring(self):
        for spring in NO_ROWS + ((), (PLACE, PLACE), (PLACE, PLACE, ONE, ONE), "ab"):
            self.bad(0, "spring", (), (spring,))
            self.bad(1, "spring", (), [SPRING, spring, None])

    def test_end_and_strength(self):
        for spot in NO_PLACES:
            self.bad(0, "end", (), ((spot, PLACE, ONE),))
            self.bad(1, "end", (), [SPRING, [PLACE, spot, 0]])
        for strength in NO_AMOUNTS:
            self.bad(0, "strength", (), ((PLACE, PLACE, strength),))
            self.bad(1, "strength", (), [SPRING, [PLACE, PLACE, strength], (PLACE,)])
        self.assertEqual(len(Rig(lamp(), (), ((PLACE, PLACE, q("1/7")),))), 1)

    def test_two_faults(self):
        self.bad(0, "weights", None, None)
        self.bad(0, "place", (((9, ONE), 0),), None)
        self.bad(1, "amount", (WEIGHT, (PLACE, 0), None), [SPRING] * 13)
        self.bad(0, "springs", (WEIGHT,), [None] * 13)
        self.bad(0, "end", (WEIGHT,), [(PLACE, None, 0), None])
        self.bad(0, "strength", (WEIGHT,), [(PLACE, PLACE, 0), None])

    def test_equality(self):
        self.assertTrue(lamp_rig() == lamp_rig())
        self.assertFalse(lamp_rig() != lamp_rig())
        rig = lamp_rig()
        others = (Rig(lamp()), rig.with_amount(0, q(3)), rig.with_strength(0, q(3)), rig.bare(),
                  Rig(lamp().with_bar(0, ONE, 0), rig.weights, rig.springs),
                  Rig(lamp(), rig.weights[::-1], rig.springs), Rig(lamp(), rig.weights, rig.springs[::-1]))
        self.unlike_all(rig, others + (lamp(), rig.weights, (rig.arms, rig.weights, rig.springs), None, 4, "rig"))
        self.unlike_all(Rig(lamp()), (None, 0, False, (), lamp()))


class OtherRigs(Case):
    def setUp(self):
        self.rig = lamp_rig()

    def tearDown(self):
        self.assertTrue(self.rig == lamp_rig())

    def no_such(self, method, *more):
        for number in NO_NUMBERS:
            self.fails(NoSuch, {"number": number}, method, number, *more)

    def test_with_weight(self):
        made = self.rig.with_weight([MAST, q(2)], q("1/3"))
        self.same(made.weights, self.rig.weights + (((-1, (2, 1)), (1, 3)),))
        self.assertEqual((made.arms, made.springs), (self.rig.arms, self.rig.springs))
        self.fails(BadRig, {"index": 2, "what": "place"}, self.rig.with_weight, (5, ONE), 0)
        self.fails(BadRig, {"index": 2, "what": "amount"}, self.rig.with_weight, PLACE, ZERO)
        full = Rig(lamp(), [WEIGHT] * 8)
        self.fails(BadRig, {"index": 0, "what": "weights"}, full.with_weight, PLACE, ONE)
        self.fails(BadRig, {"index": 0, "what": "weights"}, full.with_weight, None, None)

    def test_with_spring(self):
        made = self.rig.with_spring([0, q(2)], [1, q(2)], q("1/3"))
        self.same(made.springs, self.rig.springs + (((0, (2, 1)), (1, (2, 1)), (1, 3)),))
        self.assertEqual((made.arms, made.weights), (self.rig.arms, self.rig.weights))
        self.fails(BadRig, {"index": 2, "what": "end"}, self.rig.with_spring, (5, ONE), PLACE, 0)
        self.fails(BadRig, {"index": 2, "what": "end"}, self.rig.with_spring, PLACE, (5, ONE), ONE)
        self.fails(BadRig, {"index": 2, "what": "strength"}, self.rig.with_spring, PLACE, PLACE, q(-1))
        full = Rig(lamp(), (), [SPRING] * 12)
        self.fails(BadRig, {"index": 0, "what": "springs"}, full.with_spring, PLACE, PLACE, ONE)

    def test_without(self):
        self.same(self.rig.without_weight(0).weights, self.rig.weights[1:])
        self.same(self.rig.without_weight(1).weights, self.rig.weights[:1])
        self.same(self.rig.without_spring(0).springs, self.rig.springs[1:])
        self.same(self.rig.without_spring(1).springs, self.rig.springs[:1])
        self.assertEqual(self.rig.without_weight(0).springs, self.rig.springs)
        self.assertEqual(self.rig.without_spring(0).weights, self.rig.weights)
        self.no_such(self.rig.without_weight)
        self.no_such(self.rig.without_spring)

    def test_with_amount(self):
        self.same(self.rig.with_amount(1, q(7)).weights, (((1, (3, 1)), (2, 1)), ((0, (1, 1)), (7, 1))))
        self.assertEqual(self.rig.with_amount(0, q(7)).springs, self.rig.springs)
        self.no_such(self.rig.with_amount, ONE)
        self.no_such(self.rig.with_amount, 0)
        for amount in NO_AMOUNTS:
            self.fails(BadRig, {"index": 1, "what": "amount"}, self.rig.with_amount, 1, amount)

    def test_with_strength(self):
        self.same(self.rig.with_strength(0, q(7)).springs[0], ((-1, (4, 1)), (0, (1, 1)), (7, 1)))
        self.assertEqual(self.rig.with_strength(0, q(7)).springs[1], self.rig.springs[1])
        self.assertEqual(self.rig.with_strength(0, q(7)).weights, self.rig.weights)
        self.no_such(self.rig.with_strength, ONE)
        self.no_such(self.rig.with_strength, 0)
        for strength in NO_AMOUNTS:
            self.fails(BadRig, {"index": 1, "what": "strength"}, self.rig.with_strength, 1, strength)

    def test_bare(self):
        made = self.rig.bare()
        self.same((made.weights, made.springs), (self.rig.weights, ()))
        self.assertTrue(made.arms == lamp())

    def test_joined(self):
        other = Rig(lamp(), (WEIGHT,), (SPRING,))
        made = self.rig.joined(other)
        self.same((made.weights, made.springs), (self.rig.weights + (WEIGHT,), self.rig.springs + (SPRING,)))
        self.assertTrue(made.arms == lamp())
        full = Rig(lamp(), [WEIGHT] * 7, [SPRING] * 11)
        self.fails(OtherArms, {}, self.rig.joined, Rig(tree()))
        self.fails(OtherArms, {}, self.rig.joined, Rig(tree(), [WEIGHT] * 8))
        self.fails(BadRig, {"index": 0, "what": "weights"}, self.rig.joined, full)
        self.fails(BadRig, {"index": 0, "what": "springs"}, self.rig.joined, Rig(lamp(), (), [SPRING] * 11))
        self.assertEqual(len(self.rig.joined(Rig(lamp(), [WEIGHT] * 6, [SPRING] * 10))), 20)

    def test_rows(self):
        self.same(self.rig.spring_row(0), qs("4 -1 0"))
        self.same(self.rig.spring_row(1), qs("1 -2 -1"))
        self.no_such(self.rig.spring_row)
        self.same(self.rig.weight_rows(), (qs("0 2 3"), qs("0 1 0")))
        self.same(Rig(lamp()).weight_rows(), ())


class OnOtherArms(Case):
    def setUp(self):
        self.rig = lamp_rig()

    def tearDown(self):
        self.assertTrue(self.rig == lamp_rig())

    def test_grown(self):
        made = self.rig.grown(q("1/2"))
        self.assertTrue(made.arms == lamp().grown(q("1/2")))
        self.same(made.weights, (((1, (3, 2)), (2, 1)), ((0, (1, 2)), (1, 2))))
        self.same(made.springs, (((-1, (2, 1)), (0, (1, 2)), (1, 2)), ((-1, (1, 2)), (1, (1, 2)), (3, 1))))
        for size in NO_AMOUNTS:
            self.fails(BadSize, {}, self.rig.grown, size)

    def test_renamed(self):
        made = self.rig.renamed([2, 1])
        self.same(made.arms.bars, ((-1, (0, 1), 2), (0, (2, 1), 1)))
        self.same((made.weights, made.springs), (self.rig.weights, self.rig.springs))
        for order in (None, (1,), (1, 1), (1, 2, 3), (True, 2), "12", {1: 1, 2: 2}):
            self.fails(BadOrder, {}, self.rig.renamed, order)

    def test_shifted(self):
        rig = self.rig.with_weight((MAST, q(2)), ONE)
        made = rig.shifted(q("-1/2"))
        self.same(made.arms.bars, ((-1, (-1, 2), 1), (0, (2, 1), 2)))
        self.same(made.weights, (((1, (3, 1)), (2, 1)), ((0, (1, 1)), (1, 2)), ((-1, (3, 2)), (1, 1))))
        self.same(made.springs, (((-1, (7, 2)), (0, (1, 1)), (1, 2)), ((-1, (1, 2)), (1, (1, 1)), (3, 1))))
        for step in NO_RATIOS:
            self.fails(BadSize, {}, self.rig.shifted, step)

    def test_rows_on_other_arms(self):
        grown, lifted = self.rig.grown(q(3)), self.rig.shifted(q(5))
        for number in range(2):
            self.assertEqual(grown.spring_row(number), tuple(grown_place((0, entry), q(3))[1]
                                                             for entry in self.rig.spring_row(number)))
            self.assertEqual(lifted.spring_row(number), self.rig.spring_row(number))
        self.assertEqual(lifted.weight_rows(), (qs("5 2 3"), qs("5 1 0")))
        self.assertEqual(self.rig.renamed((2, 1)).weight_rows(), (qs("0 3 2"), qs("0 0 1")))

    def test_the_mast_alone_is_shifted(self):
        arms = Arms(((MAST, ONE, 1), (0, q(2), 0)))
        rig = Rig(arms, (((1, q(3)), ONE),))
        self.same(rig.shifted(ONE).weights, (((1, (3, 1)), (1, 1)),))
        self.same(rig.shifted(ONE).arms.bars, ((-1, (2, 1), 1), (0, (2, 1), 0)))


if __name__ == "__main__":
    unittest.main()
