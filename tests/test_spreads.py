"""spreads.py [9.6], [9.7]."""
import unittest
from fractions import Fraction

from stillarms.brakes import least_brakes
from stillarms.counters import Counterweights, counterweights
from stillarms.couplings import couplings_of
from stillarms.errors import BadPlace, BadSpread
from stillarms.leastwork import most_between
from stillarms.poses import place_at
from stillarms.ratios import ONE, ZERO
from stillarms.rigs import Rig
from stillarms.spreads import NoSpread, Spread, spread_fault, spread_weight
from stillarms.stillness import same_feel
from tests.cases import MAST, NO_RATIOS, ODD_THINGS, Case, Draws, dot, free, frac, fracs, lamp, mixed, place, q, qs
from tests.test_feels import BAD_PLACES


def column(arms, where, exact):
    row = arms.row_of(where)
    return (ONE,) + row if exact else row[1:]


class SpreadCase(Case):
    def judged(self, arms, where, places, exact=False):
        """The amounts, or None, what shows it being right."""
        told = spread_weight(arms, where, places, exact=exact)
        self.assertIsNone(spread_fault(arms, where, places, told, exact=exact))
        columns, target = [column(arms, other, exact) for other in places], column(arms, where, exact)
        if type(told) is NoSpread:
            self.assertIs(type(told.numbers), tuple)
            self.assertEqual(len(told.numbers), len(target))
            self.assertTrue(all(dot(told.numbers, other) >= 0 for other in columns))
            self.assertLess(dot(told.numbers, target), 0)
            return None
        self.assertIs(type(told), Spread)
        self.assertIs(type(told.amounts), tuple)
        self.assertEqual(len(told.amounts), len(places))
        self.assertTrue(all(number >= 0 for number in fracs(told.amounts)))
        self.assertEqual(mixed(columns, told.amounts, len(target)), fracs(target))
        shared = Rig(arms, [(other, amount) for other, amount in zip(places, told.amounts) if amount != ZERO], ())
        self.assertIsNone(same_feel(Rig(arms, ((where, ONE),), ()), shared))
        return told.amounts


class ByHand(SpreadCase):
    def test_between(self):
        arms = free(1)
        self.same(self.judged(arms, place(0, 2), (place(0, 1), place(0, 5)), exact=True), qs("3/4 1/4"))
        self.same(self.judged(arms, place(0, 2), (place(0, 1),)), qs("2"))
        self.assertIsNone(self.judged(arms, place(0, 2), (place(0, 1),), exact=True))
        self.same(self.judged(arms, [0, q(2)], [[0, q(2)]], exact=True), qs("1"))

    def test_to_one_side(self):
        arms = free(1)
        self.assertIsNone(self.judged(arms, place(0, 6), (place(0, 1), place(0, 5)), exact=True))
        self.same(self.judged(arms, place(0, 6), (place(0, 5),)), qs("6/5"))
        self.assertIsNone(self.judged(arms, place(0, -1), (place(0, 1), place(0, 5))))
        self.same(self.judged(arms, place(0, -1), (place(0, 1), place(0, -5))), qs("0 1/5"))

    def test_the_mast(self):
        arms = free(1)
        # Nobody feels a weight on the mast: no amounts are needed, unless they are to be exact.
        self.same(self.judged(arms, place(MAST, 3), (place(0, 1),)), qs("0"))
        self.assertIsNone(self.judged(arms, place(MAST, 3), (place(0, 1),), exact=True))
        self.same(self.judged(arms, place(MAST, 3), (place(0, 1), place(MAST, 0), place(MAST, 4)), exact=True), qs("0 1/4 3/4"))
        self.assertIsNone(self.judged(arms, place(0, 1), (place(MAST, 3),)))
        # The mean of both is the foot of the bar, where the place is.
        self.same(self.judged(arms, place(MAST, 0), (place(0, 1), place(0, -1)), exact=True), qs("1/2 1/2"))

    def test_six_places(self):
        arms = lamp()
        places = [place(0, 1), place(1, 1), place(MAST, 2), place(0, -1), place(1, -1), place(MAST, -2)]
        self.assertIsNotNone(self.judged(arms, place(1, "1/2"), places))
        # Its height above the mark 0 is 2 on letter 1 and 3 on letter 2, of all places only those of bar 1 have 2 on letter 1.
        self.assertIsNone(self.judged(arms, place(1, 3), places, exact=True))
        self.assertIsNotNone(self.judged(arms, place(1, "1/2"), places, exact=True))

    def test_errors(self):
        arms = lamp()
        right = place(0, 1)
        for thing in BAD_PLACES:
            for exact in (True, False):
                self.fails(BadPlace, {}, spread_weight, arms, thing, None, exact=exact)
                self.fails(BadPlace, {}, spread_fault, arms, thing, None, None, exact=exact)
            self.fails(BadSpread, {"index": 0, "what": "place"}, spread_weight, arms, right, (thing, None))
            self.fails(BadSpread, {"index": 2, "what": "place"}, spread_weight, arms, right, [right, right, thing])
            self.fails(BadSpread, {"index": 1, "what": "place"}, spread_fault, arms, right, [right, thing], None)
        for places in ODD_THINGS + ((), [], (right,) * 7, (None,) * 7, range(1), {0: ONE}):
            self.fails(BadSpread, {"index": 0, "what": "many"}, spread_weight, arms, right, places)
            self.fails(BadSpread, {"index": 0, "what": "many"}, spread_weight, arms, right, places, exact=True)
            self.fails(BadSpread, {"index": 0, "what": "many"}, spread_fault, arms, right, places, None)


class Drawn(SpreadCase):
    def test_drawn(self):
        draws = Draws("spreads")
        count = {}
        for turn in range(160):
            arms = draws.arms(draws.random.randint(1, 3))
            places = [draws.place(arms) for _ in range(draws.random.randint(1, 6))]
            where, exact = draws.place(arms), turn % 2 == 0
            if turn % 4 < 2:
                # A place on the bar of two others, between them or not.
                bar, mark = places[0]
                places.append((bar, q(frac(mark) + draws.random.randint(1, 4))))
                places = places[-6:]
                where = (bar, q(frac(places[-1][1]) + draws.random.choice((-1, Fraction(-1, 2), 1))))
            amounts = self.judged(arms, where, places, exact)
            count[exact, amounts is None] = count.get((exact, amounts is None), 0) + 1
            if exact and amounts is not None:
                self.assertEqual(sum(fracs(amounts)), 1)
                pose = draws.pose(arms)
                spots = [fracs(place_at(arms, pose, other)) for other in places]
                for axis in (0, 1):
                    mean = sum(number * spot[axis] for number, spot in zip(fracs(amounts), spots))
                    self.assertEqual(mean, frac(place_at(arms, pose, where)[axis]))
        self.assertEqual(len(count), 4)
        self.assertTrue(all(many > 10 for many in count.values()), count)

    def test_counterweights_of_what_is_spread(self):
        draws = Draws("spread counterweights")
        found = 0
        for _ in range(40):
            arms = free(draws.random.randint(1, 3))
            where = draws.small_place(arms)
            places = [draws.small_place(arms) for _ in range(3)]
            # A rig that feels as minus the weight is stilled by just what the weight is shared among.
            rows = arms.row_of(where)[1:]
            against = Rig(arms, [((bar, q(-frac(number))), ONE) for bar, number in enumerate(rows) if number != ZERO], ())
            told = spread_weight(arms, where, places)
            self.assertEqual(type(counterweights(against, places)) is Counterweights, type(told) is Spread)
            found += type(told) is Spread
        self.assertGreater(found, 5)

    def test_spread_weights_keep_brakes_and_works(self):
        draws = Draws("kept brakes")
        found = 0
        for _ in range(60):
            arms = draws.arms(draws.random.randint(1, 3))
            where, places = draws.place(arms), [draws.place(arms) for _ in range(5)]
            told = spread_weight(arms, where, places)
            if type(told) is NoSpread:
                continue
            found += 1
            rig = Rig(arms, [(draws.place(arms), draws.positive())], [(draws.place(arms), draws.place(arms), ONE)])
            one = rig.with_weight(where, ONE)
            other = rig
            for share, amount in zip(places, told.amounts):
                other = other if amount == ZERO else other.with_weight(share, amount)
            self.assertEqual(couplings_of(one), couplings_of(other))
            self.assertEqual(least_brakes(one), least_brakes(other))
            if arms.letters < 3:
                self.assertEqual(most_between(one), most_between(other))
        self.assertGreater(found, 15)


class Judge(Case):
    def judged(self, told, exact=False, where=place(0, 2), places=(place(0, 1), place(0, 5))):
        return spread_fault(free(1), where, places, told, exact=exact)

    def test_kind(self):
        for told in ODD_THINGS + (5, qs("3/4 1/4"), Counterweights(qs("3/4 1/4"))):
            self.assertEqual(self.judged(told), "kind")
            self.assertEqual(self.judged(told, True), "kind")

    def test_amounts(self):
        for amounts in ODD_THINGS + (5, (), qs("2"), qs("2 0 0"), qs("-3 1"), (2, 0), (ONE, None), (True, ONE)):
            self.assertEqual(self.judged(Spread(amounts)), "amounts")
            self.assertEqual(self.judged(Spread(amounts), True), "amounts")
        for thing in NO_RATIOS:
            self.assertEqual(self.judged(Spread((ONE, thing))), "amounts")

    def test_sum(self):
        for text, plain, exact in (("3/4 1/4", None, None), ("2 0", None, "sum"), ("0 2/5", None, "sum"), ("1 1/5", None, "sum"), ("1 0", "sum", "sum"),
                                   ("1/2 1/2", "sum", "sum"), ("0 0", "sum", "sum")):
            self.assertEqual([self.judged(Spread(qs(text))), self.judged(Spread(list(qs(text))), True)], [plain, exact])

    def test_numbers(self):
        for numbers in ODD_THINGS + (5, (), qs("1 1"), (1,), (None,)):
            self.assertEqual(self.judged(NoSpread(numbers)), "numbers")
        for numbers in ODD_THINGS + ((), qs("1"), qs("1 1"), qs("1 1 1 1"), (ONE, ONE, 1)):
            self.assertEqual(self.judged(NoSpread(numbers), True), "numbers")
        for thing in NO_RATIOS:
            self.assertEqual(self.judged(NoSpread((thing,))), "numbers")

    def test_places_then_place(self):
        self.assertEqual([self.judged(NoSpread(qs(text))) for text in ("-1", "1", "0")], ["places", "place", "place"])
        far = place(0, 6)
        # 5 less the mark: 4 and 0 for the places, -1 for the place.
        self.assertIsNone(self.judged(NoSpread(qs("5 0 -1")), True, far))
        self.assertIsNone(self.judged(NoSpread(list(qs("5 7 -1"))), True, far))
        self.assertEqual(self.judged(NoSpread(qs("4 0 -1")), True, far), "places")
        self.assertEqual(self.judged(NoSpread(qs("6 0 -1")), True, far), "place")
        self.assertEqual(self.judged(NoSpread(qs("5 0 -1")), True), "place")
        self.assertIsNone(self.judged(NoSpread(qs("1")), False, place(0, -1)))

    def test_equality(self):
        self.assertTrue(Spread(qs("1")) == Spread(qs("1")) and NoSpread(qs("1")) == NoSpread(qs("1")))
        self.unlike_all(Spread(qs("1")), (Spread(qs("2")), NoSpread(qs("1")), qs("1"), None))
        self.unlike_all(NoSpread(qs("1")), (NoSpread(qs("2")), Spread(qs("1")), qs("1"), None))


if __name__ == "__main__":
    unittest.main()
