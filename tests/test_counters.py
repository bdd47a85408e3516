"""counters.py [6.14]."""
import unittest

from stillarms.counters import (Counterweights, LeastCounterweights, NoCounterweights, counterweights,
                                counterweights_fault, least_counterweights, with_counterweights)
from stillarms.couplings import Couplings, couplings_by, couplings_of, pair_product, weight_couplings, zero_couplings
from stillarms.errors import BadCounterweights, BadPlaces, BadRig
from stillarms.pools import LeastStrengths, NoStrengths, Strengths
from stillarms.ratios import ONE, ZERO
from stillarms.rigs import Rig
from stillarms.stillness import is_still
from tests.cases import MAST, NO_RATIOS, ODD_THINGS, Case, Draws, balanced, frac, fracs, free, lamp, lamp_rig, place, q, qs

PLACE = place(0, -1)

BAD_PLACES = tuple((0, "many", thing) for thing in ODD_THINGS + (5, "12", range(0), (PLACE,) * 9, [PLACE] * 8 + [None])) + (
    (0, "place", (None,)), (1, "place", (PLACE, None)), (7, "place", [PLACE] * 7 + [(2, ONE)]), (0, "place", PLACE),
    (0, "place", ((-2, ONE), None)), (1, "place", (PLACE, (True, ONE))), (1, "place", (PLACE, (0, 1))), (0, "place", ((0,),)),
    (2, "place", (PLACE, PLACE, (0, ONE, ONE))), (0, "place", ((0, (2, 4)),)), (0, "place", ("01",)))


class CounterCase(Case):
    def tables(self, arms, places):
        return [weight_couplings(Rig(arms, ((spot, ONE),))) for spot in places]

    def stilled(self, rig, places, row):
        self.assertIs(type(row), tuple)
        self.assertEqual(len(row), len(places))
        self.assertTrue(all(q(frac(entry)) == entry and frac(entry) >= 0 for entry in row))
        total = couplings_of(rig)
        for table, amount in zip(self.tables(rig.arms, places), row):
            total = total.added(table.scaled(amount))
        self.assertTrue(total.is_zero())
        self.assertIsNone(counterweights_fault(rig, places, Counterweights(row)))
        if len(rig.weights) + len(places) <= 8:
            self.assertTrue(is_still(with_counterweights(rig, places, row)))

    def unstilled(self, rig, places, told):
        self.assertIs(type(told), NoCounterweights)
        self.assertIs(type(told.table), Couplings)
        for table in self.tables(rig.arms, places):
            self.assertGreaterEqual(frac(pair_product(told.table, table)), 0)
        self.assertGreater(frac(pair_product(told.table, couplings_of(rig))), 0)
        self.assertIsNone(counterweights_fault(rig, places, told))


class Counterweighing(CounterCase):
    def test_by_hand(self):
        rig = balanced().bare()
        self.same(vars(counterweights(rig, (PLACE,))), {"row": (q(2),)})
        self.same(counterweights(rig, [list(PLACE)]).row, (q(2),))
        self.same(counterweights(rig, (place(MAST, 3), place(0, -4), place(0, 1))).row, qs("0 1/2 0"))
        for places in ((), (place(0, 1),), (place(MAST, 1), place(0, 0))):
            self.unstilled(rig, places, counterweights(rig, places))
        # What springs couple between letters no weight can hold.
        rig = lamp_rig()
        places = (place(0, -1), place(0, 1), place(1, -1), place(1, 1))
        self.unstilled(rig, places, counterweights(rig, places))
        # The weight at 1:2 couples 0 with both letters by 2; one at 1:-1 has 2 and -1.
        rig = Rig(lamp(), ((place(1, 2), ONE),))
        self.same(counterweights(rig, (place(1, -1), place(0, -1))).row, qs("2 6"))
        self.unstilled(rig, (place(1, -1), place(1, 1)), counterweights(rig, (place(1, -1), place(1, 1))))

    def test_still_rigs(self):
        self.same(counterweights(balanced(), (PLACE, place(0, 5))).row, (ZERO, ZERO))
        self.same(counterweights(balanced(), ()).row, ())
        self.stilled(Rig(lamp()), (place(1, 1), place(1, -1)), counterweights(Rig(lamp()), (place(1, 1), place(1, -1))).row)

    def test_zero_and_eight_places(self):
        places = tuple(place(0, -mark) for mark in range(1, 9))
        self.stilled(balanced().bare(), places, counterweights(balanced().bare(), places).row)
        told = least_counterweights(balanced().bare(), places)
        self.same((told.value, told.row), (q("1/4"), (ZERO,) * 7 + (q("1/4"),)))

    def test_drawn(self):
        draws = Draws("counterweights")
        count = {Counterweights: 0, NoCounterweights: 0}
        for _ in range(120):
            arms = draws.arms() if draws.random.random() < 0.3 else free(draws.random.randint(1, 3))
            rig = Rig(arms, [(draws.small_place(arms), draws.positive()) for _ in range(draws.random.randint(0, 3))])
            if draws.random.random() < 0.2:
                rig = draws.rig(arms)
            places = [draws.small_place(arms) for _ in range(draws.random.randint(0, 8))]
            told = counterweights(rig, places)
            least = least_counterweights(rig, places)
            count[type(told)] += 1
            if type(told) is NoCounterweights:
                self.unstilled(rig, places, told)
                self.unstilled(rig, places, least)
                continue
            self.stilled(rig, places, told.row)
            self.assertIs(type(least), LeastCounterweights)
            self.stilled(rig, places, least.row)
            self.assertEqual(sum(fracs(least.row)), frac(least.value))
            self.assertLessEqual(frac(least.value), sum(fracs(told.row)))
            for table in self.tables(arms, places):
                self.assertLessEqual(frac(pair_product(least.table, table)), 1)
            self.assertEqual(frac(pair_product(least.table, couplings_of(rig))), -frac(least.value))
        self.assertTrue(all(many > 30 for many in count.values()), count)

    def test_least_by_hand(self):
        rig = balanced().bare()
        told = least_counterweights(rig, (place(0, -1), place(0, -4), place(0, 9)))
        self.same((told.value, told.row, told.table.numbers), (q("1/2"), qs("0 1/2 0"), qs("-1/4")))
        told = least_counterweights(balanced(), ())
        self.same((told.value, told.row), (ZERO, ()))
        self.unstilled(rig, (place(0, 1),), least_counterweights(rig, (place(0, 1),)))


class WithCounterweights(CounterCase):
    def test_order_and_zeros(self):
        rig = balanced()
        places = (place(0, -1), place(MAST, 2), place(0, -3))
        told = with_counterweights(rig, places, qs("1/2 0 7"))
        self.assertTrue(told == Rig(rig.arms, rig.weights + ((places[0], q("1/2")), (places[2], q(7))), rig.springs))
        self.assertTrue(with_counterweights(rig, [list(spot) for spot in places], list(qs("1/2 0 7"))) == told)
        self.assertTrue(with_counterweights(rig, places, (ZERO,) * 3) == rig)
        self.assertTrue(with_counterweights(rig, (), []) == rig)

    def test_errors(self):
        rig, table = balanced(), zero_couplings(1)
        for index, what, places in BAD_PLACES:
            told = {"index": index, "what": what}
            self.fails(BadPlaces, told, counterweights, rig, places)
            self.fails(BadPlaces, told, least_counterweights, rig, places)
            self.fails(BadPlaces, told, with_counterweights, rig, places, None)
            self.fails(BadPlaces, told, counterweights_fault, rig, places, Counterweights(()))
            self.fails(BadPlaces, told, counterweights_fault, rig, places, NoCounterweights(table))
        for index, row in tuple((0, thing) for thing in ODD_THINGS) + (
                (0, ()), (0, (ONE,)), (0, (q(-1),) * 3), (1, (ONE, q("-1/9"))), (0, (None, q(-1))), (1, [ZERO, 1]), (0, "11")):
            self.fails(BadCounterweights, {"index": index}, with_counterweights, rig, (PLACE, PLACE), row)
        for thing in NO_RATIOS:
            self.fails(BadCounterweights, {"index": 1}, with_counterweights, rig, (PLACE, PLACE), (ONE, thing))
        rig = Rig(rig.arms, rig.weights * 7)
        self.assertEqual(len(with_counterweights(rig, (PLACE, PLACE), (ZERO, ONE)).weights), 8)
        self.fails(BadRig, {"index": 0, "what": "weights"}, with_counterweights, rig, (PLACE, PLACE), (ONE, ONE))
        self.fails(BadCounterweights, {"index": 1}, with_counterweights, rig, (PLACE, PLACE), (ONE, None))


class Judging(CounterCase):
    PLACES = (place(0, -1), place(0, 1))

    def fault(self, row, rig=None):
        return counterweights_fault(rig or balanced().bare(), self.PLACES, Counterweights(row))

    def against(self, *numbers):
        letters = {1: 1, 3: 2}[len(numbers)]
        rig = balanced().with_strength(0, ONE)
        return counterweights_fault(rig, (place(0, -1), place(0, -2)),
                                    NoCounterweights(couplings_by(letters, [q(number) for number in numbers])))

    def test_right(self):
        for row in ("2 0", "3 1", "5/2 1/2"):
            self.assertIsNone(self.fault(qs(row)))
            self.assertIsNone(self.fault(list(qs(row))))
        self.assertIsNone(self.against(-1))
        self.assertIsNone(self.against("-1/9"))
        full = Rig(balanced().arms, ((place(0, 1), ONE),) * 8)
        self.assertIsNone(self.fault(qs("9 1"), full))

    def test_words(self):
        for row in ("", "2", "2 0 0", "-1"):
            self.assertEqual(self.fault(qs(row)), "many")
        for row in ("1 -1", "-1/9 0"):
            self.assertEqual(self.fault(qs(row)), "below")
        for row in ("0 0", "2 1/9", "0 2"):
            self.assertEqual(self.fault(qs(row)), "still")
        self.assertEqual(self.against(0, 0, 0), "letters")
        self.assertEqual(self.against(-1, -1, -1), "letters")
        self.assertEqual(self.against(1), "place")
        self.assertEqual(self.against("1/9"), "place")
        self.assertEqual(self.against(0), "rig")
        self.assertEqual(counterweights_fault(balanced(), (), NoCounterweights(couplings_by(1, qs("1")))), "rig")
        self.assertEqual(counterweights_fault(balanced().bare(), (), NoCounterweights(couplings_by(1, qs("-1")))), "rig")


class Results(Case):
    def test_equality(self):
        row, table, other = qs("1 2"), zero_couplings(1), couplings_by(1, qs("1"))
        for made, like, others in (
                (Counterweights(row), Counterweights(row), (Counterweights(()), Strengths(row), row)),
                (NoCounterweights(table), NoCounterweights(zero_couplings(1)), (NoCounterweights(other), NoStrengths(table))),
                (LeastCounterweights(ONE, row, table), LeastCounterweights(ONE, row, zero_couplings(1)),
                 (LeastCounterweights(ZERO, row, table), LeastCounterweights(ONE, (), table),
                  LeastCounterweights(ONE, row, other), LeastStrengths(ONE, row, table)))):
            self.assertTrue(made == like)
            self.unlike_all(made, others)


if __name__ == "__main__":
    unittest.main()
