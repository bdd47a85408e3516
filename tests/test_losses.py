"""losses.py [5.9]."""
import itertools
import unittest

from stillarms.brakes import Slips, is_held, least_brakes, slip_of
from stillarms.directions import DOWN, LEFT, RIGHT, UP
from stillarms.errors import BadBrakes, BadCount, BadLot, BadPins, BadShares
from stillarms.losses import (Lost, held_without, least_brakes_without, least_losses, loss_fault, most_lost,
                              spring_lots, weakened, without_lot)
from stillarms.pins import is_held_pinned, pinned_fault, pinned_slip
from stillarms.ratios import ONE, ZERO
from stillarms.rigs import Rig
from tests.cases import MAST, NO_RATIOS, ODD_THINGS, Case, Draws, balanced, frac, lamp_rig, q, qs, rig_with
from tests.test_pins import draw_pins

NO_LOTS = tuple(thing for thing in ODD_THINGS) + ((3,), (-1,), (0, 0), (1, 0), (True,), (0, 1.0), "01", {0: 1}, range(2),
                                                   (0, 1, 2, 3), ((0,),), (None,))
NO_COUNTS = (-1, None, True, False, 1.0, "1", (1,), [2])


def three():
    """Three springs of strengths 3, 2 and 1; the first two pull letter 1 against each other, the third pulls letter 2."""
    rig = rig_with(2, c01=3, c02=1)
    first, last = rig.springs
    return Rig(rig.arms, (), (first, ((MAST, ONE), (0, ONE), q(2)), last))


def parts_of(lot):
    return [part for size in range(len(lot)) for part in itertools.combinations(lot, size)]


class Lots(Case):
    def test_order(self):
        self.same(list(spring_lots(three(), 0)), [()])
        self.same(list(spring_lots(three(), 1)), [(), (0,), (1,), (2,)])
        self.same(list(spring_lots(three(), 2)), [(), (0,), (1,), (2,), (0, 1), (0, 2), (1, 2)])
        for count in (3, 4, 10 ** 30):
            self.same(list(spring_lots(three(), count)), [(), (0,), (1,), (2,), (0, 1), (0, 2), (1, 2), (0, 1, 2)])
        self.same(list(spring_lots(three().bare(), 5)), [()])

    def test_bad_counts(self):
        for count in NO_COUNTS:
            told = {"count": count}
            self.fails(BadCount, told, lambda: list(spring_lots(three(), count)))
            self.fails(BadCount, told, held_without, three(), (ONE, ONE), count)
            self.fails(BadCount, told, least_brakes_without, three(), count)

    def test_without_lot(self):
        rig = three()
        self.assertTrue(without_lot(rig, ()) == rig)
        self.assertTrue(without_lot(rig, [1]) == rig.without_spring(1))
        self.assertTrue(without_lot(rig, (0, 2)) == Rig(rig.arms, (), rig.springs[1:2]))
        self.assertTrue(without_lot(lamp_rig(), (0, 1)) == lamp_rig().bare())
        for lot in NO_LOTS:
            self.fails(BadLot, {}, without_lot, rig, lot)
        self.fails(BadLot, {}, without_lot, rig.bare(), (0,))

    def test_weakened(self):
        rig = lamp_rig()
        self.assertTrue(weakened(rig, (ONE, ONE)) == rig)
        self.assertTrue(weakened(rig, [ZERO, q("1/6")]) == rig.without_spring(0).with_strength(0, q("1/2")))
        self.assertTrue(weakened(rig, qs("2/3 1")) == rig.with_strength(0, q("1/3")))
        self.assertTrue(weakened(rig, (ZERO, ZERO)) == rig.bare())
        self.assertTrue(weakened(rig.bare(), ()) == rig.bare())

    def test_bad_shares(self):
        rig = lamp_rig()
        for index, shares in ((0, None), (0, 1), (0, {}), (0, "11"), (0, ()), (1, (ONE,)), (2, (ONE, ONE, ONE)),
                              (2, [ZERO, ONE, None, None]), (0, (q("10/9"), None)), (1, (ONE, q("-1/9"))), (1, (ZERO, 1))):
            self.fails(BadShares, {"index": index}, weakened, rig, shares)
        for thing in NO_RATIOS + qs("2 -1"):
            self.fails(BadShares, {"index": 1}, weakened, rig, (ONE, thing))
        self.fails(BadShares, {"index": 0}, weakened, rig.bare(), (ONE,))


class HeldWithout(Case):
    def test_by_hand(self):
        # All springs: 3 - 2 and 1. Without the first -2 and 1, without the second 3 and 1.
        rig = three()
        self.same(least_brakes(rig), qs("1 1"))
        self.assertIsNone(held_without(rig, qs("1 1"), 0))
        told = held_without(rig, qs("1 1"), 1)
        self.assertIs(type(told), Lost)
        self.same(told.lot, (0,))
        self.same(vars(told.slip), {"letter": 1, "pose": (RIGHT, UP), "push": q(2)})
        self.same(held_without(rig, qs("2 1"), 1).lot, (1,))
        self.same(held_without(rig, qs("2 1"), 7).lot, (1,))
        self.assertIsNone(held_without(rig, [q(3), ONE], 3))
        self.same(held_without(rig, qs("1/2 1"), 0).lot, ())
        self.same(held_without(rig, qs("3 1/2"), 3).lot, ())
        self.same(held_without(rig, qs("3 1/2"), 3).slip.letter, 2)

    def test_with_pins(self):
        rig = three()
        self.assertIsNone(held_without(rig, qs("0 1"), 3, pins=((1, LEFT),)))
        self.assertIsNone(held_without(rig, qs("0 0"), 3, pins=((1, LEFT), (2, UP))))
        told = held_without(rig, qs("2 0"), 3, pins=[[2, list(UP)]])
        self.same((told.lot, told.slip.letter, told.slip.pose[1]), ((1,), 1, UP))
        self.assertIsNone(loss_fault(rig, qs("2 0"), told, pins=((2, UP),)))

    def test_least_brakes_without(self):
        self.same(least_brakes_without(three(), 0), qs("1 1"))
        self.same(least_brakes_without(three(), 1), qs("3 1"))
        self.same(least_brakes_without(balanced(), 0), qs("0"))
        self.same(least_brakes_without(balanced(), 99), qs("2"))

    def test_most_lost(self):
        self.assertEqual(most_lost(three(), qs("3 1")), 3)
        self.assertEqual(most_lost(three(), list(qs("2 1"))), 0)
        self.assertEqual(most_lost(three(), qs("1 1")), 0)
        self.assertIsNone(most_lost(three(), qs("1 0")))
        self.assertEqual(most_lost(three().bare(), qs("0 0")), 0)
        # Four springs of 1 together hold a weight that pulls with 4, and each one that is lost leaves 1.
        arms = rig_with(1).arms
        rig = Rig(arms, (((0, q(-4)), ONE),), (((MAST, ONE), (0, q(-1)), ONE),) * 4)
        self.same([most_lost(rig, qs(brake)) for brake in ("0", "1", "3/2", "2", "3", "4", "9")], [0, 1, 1, 2, 3, 4, 4])
        # A fifth one pulls against them with 3: the loss of it alone leaves 3, that of the four 4, that of all five 1.
        rig = rig.with_spring((MAST, ONE), (0, ONE), q(3)).with_amount(0, q("1/4"))
        self.same([most_lost(rig, qs(brake)) for brake in ("0", "2", "3", "4")], [0, 0, 3, 5])

    def test_least_losses(self):
        self.same(least_losses(three(), qs("1 1")), ((0,), (1,)))
        self.same(least_losses(three(), qs("2 1")), ((1,),))
        self.same(least_losses(three(), qs("3 1")), ())
        self.same(least_losses(three(), qs("0 1")), ((),))
        self.same(least_losses(three().bare(), [ZERO, ZERO]), ())
        # Losing both of two springs that pull against each other helps.
        rig = rig_with(1, c01=2)
        rig = Rig(rig.arms, (), rig.springs + (((MAST, ONE), (0, ONE), q(2)),))
        self.assertTrue(is_held(without_lot(rig, (0, 1)), (ZERO,)))
        self.same(least_losses(rig, (ZERO,)), ((0,), (1,)))
        # A lot of two of which each one alone can be lost.
        rig = rig_with(1, c01=-2)
        rig = Rig(rig.arms, (), (((MAST, ONE), (0, q(-1)), ONE),) * 2 + rig.springs)
        self.same(least_losses(rig, (ONE,)), ((2,), (0, 1)))

    def test_errors(self):
        rig, loss = three(), Lost(None, None)
        for index, brakes in ((0, None), (1, (ONE,)), (2, (ONE,) * 3), (1, (ONE, q(-1)))):
            told = {"index": index}
            self.fails(BadBrakes, told, held_without, rig, brakes, -1, pins=None)
            self.fails(BadBrakes, told, most_lost, rig, brakes)
            self.fails(BadBrakes, told, least_losses, rig, brakes)
            self.fails(BadBrakes, told, loss_fault, rig, brakes, loss, pins=None)
        self.fails(BadCount, {"count": -1}, held_without, rig, (ONE, ONE), -1, pins=None)
        for index, pins in ((0, None), (0, ((3, UP),)), (1, ((1, UP), (1, UP))), (0, ((1, None),))):
            self.fails(BadPins, {"index": index}, held_without, rig, (ONE, ONE), 1, pins=pins)
            self.fails(BadPins, {"index": index}, loss_fault, rig, (ONE, ONE), loss, pins=pins)

    def test_drawn(self):
        draws = Draws("losses")
        lost = 0
        for _ in range(40):
            rig = draws.rig(springs=4)
            pins = draw_pins(draws, rig.arms) if draws.random.random() < 0.6 else ()
            brakes = tuple(q(draws.random.randint(1, 30)) for _ in range(rig.arms.letters))
            count = draws.random.randint(0, 5)
            held = {lot: is_held_pinned(without_lot(rig, lot), brakes, pins) for lot in spring_lots(rig, 4)}
            told = held_without(rig, brakes, count, pins=pins)
            bad = [lot for lot in held if len(lot) <= count and not held[lot]]
            self.assertEqual(told is None, bad == [])
            if told is None:
                shares = [ONE] * len(rig.springs)
                for number in range(min(count, len(shares))):
                    shares[number] = q(draws.random.random())
                draws.random.shuffle(shares)
                self.assertTrue(is_held_pinned(weakened(rig, shares), brakes, pins))
            else:
                lost += 1
                self.same(told.lot, bad[0])
                less = without_lot(rig, told.lot)
                self.assertEqual(told.slip.letter, pinned_slip(less, brakes, pins).letter)
                if pins == ():
                    self.assertTrue(told.slip == slip_of(less, brakes))
                self.assertIsNone(pinned_fault(less, brakes, pins, told.slip))
                self.assertIsNone(loss_fault(rig, brakes, told, pins=pins))
            rows = [least_brakes(without_lot(rig, lot)) for lot in spring_lots(rig, count)]
            self.same(least_brakes_without(rig, count), tuple(max(column, key=frac) for column in zip(*rows)))
        self.assertGreater(lost, 10)

    def test_drawn_without_pins(self):
        draws = Draws("least losses")
        for _ in range(40):
            rig = draws.rig(springs=5)
            brakes = tuple(q(draws.random.randint(1, 50)) for _ in range(rig.arms.letters))
            held = {lot: is_held(without_lot(rig, lot), brakes) for lot in spring_lots(rig, 12)}
            told = tuple(lot for lot in held if not held[lot] and all(held[part] for part in parts_of(lot)))
            self.same(least_losses(rig, brakes), told)
            counts = [count for count in range(len(rig.springs) + 1) if held_without(rig, brakes, count) is None]
            self.assertEqual(most_lost(rig, brakes), max(counts) if counts else None)

    def test_twelve_springs(self):
        rig = rig_with(4, c01=1, c02=2, c12="-1/2")
        rig = Rig(rig.arms, (), rig.springs * 4)
        self.same(least_losses(rig, qs("6 10 0 0")), ())
        self.assertEqual(most_lost(rig, qs("6 10 0 0")), 12)


class Judging(Case):
    def fault(self, lot, slip, brakes="1 1", **named):
        return loss_fault(three(), qs(brakes), Lost(lot, slip), **named)

    def test_right_papers(self):
        self.assertIsNone(self.fault((0,), Slips(1, (RIGHT, UP), q(2))))
        self.assertIsNone(self.fault([0], Slips(1, [LEFT, UP], q(-2))))
        self.assertIsNone(self.fault((1, 2), Slips(1, (LEFT, UP), q(3))))
        self.assertIsNone(self.fault((), Slips(1, (LEFT, UP), q(1)), "0 1"))

    def test_lot(self):
        for lot in NO_LOTS:
            self.assertEqual(self.fault(lot, Slips(1, (RIGHT, UP), q(2))), "lot")
            self.assertEqual(self.fault(lot, None), "lot")

    def test_slip(self):
        for letter in (0, 3, True, None, "1"):
            self.assertEqual(self.fault((0,), Slips(letter, None, None)), "letter")
        self.assertEqual(self.fault((0,), None), "letter")
        self.assertEqual(self.fault((0,), Slips(1, (RIGHT, UP), q(2)), pins=((1, RIGHT),)), "letter")
        self.assertEqual(self.fault((0,), Slips(1, (RIGHT,), None), pins=((2, LEFT),)), "pose")
        self.assertEqual(self.fault((0,), Slips(1, (RIGHT, UP), q(2)), pins=((2, DOWN),)), "pins")
        self.assertEqual(self.fault((1,), Slips(1, (RIGHT, UP), q(2))), "push")
        self.assertEqual(self.fault((0,), Slips(1, (RIGHT, UP), 2)), "push")
        self.assertEqual(self.fault((0,), Slips(1, (RIGHT, UP), q(2)), "2 0"), "held")

    def test_equality(self):
        loss = held_without(three(), qs("1 1"), 1)
        self.assertTrue(loss == held_without(three(), qs("1 1"), 2))
        self.unlike_all(loss, (Lost((1,), loss.slip), Lost((0,), None), None, ((0,), loss.slip)))


if __name__ == "__main__":
    unittest.main()
