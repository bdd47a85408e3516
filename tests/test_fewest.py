"""fewest.py [6.10], [6.11]."""
import itertools
import unittest

from stillarms.couplings import couplings_of, weight_row
from stillarms.fewest import bearing_letters, fewest_springs, needed_count, still_lots
from stillarms.pooljudge import with_strengths
from stillarms.pools import Strengths, stills
from stillarms.ratios import ONE, ZERO, negative
from stillarms.rigs import Rig
from stillarms.stillness import is_still
from tests.cases import MAST, Case, Draws, balanced, frac, free, lamp, lamp_rig, place, q, qs, tree

SPAN = (place(MAST, 4), place(0, 1))


def lots_of(many):
    return [lot for size in range(many + 1) for lot in itertools.combinations(range(many), size)]


class Lots(Case):
    def test_by_hand(self):
        rig = balanced().bare()
        pool = (SPAN, (place(0, 2), place(0, 3)), (place(MAST, 2), place(0, 1)), (place(MAST, -1), place(0, 1)))
        self.same(list(still_lots(rig, pool)), [((0,), qs("1/2")), ((2,), qs("1"))])
        self.assertEqual(fewest_springs(rig, pool), 1)
        self.assertEqual(fewest_springs(rig, [list(span) for span in pool]), 1)

    def test_lots_of_two_and_three(self):
        # Only the first span still letter 2; letter 1 has two ways, one with two springs more.
        rig = Rig(lamp(), ((place(1, 2), ONE),))
        pool = ((place(MAST, 1), place(1, 3)), (place(MAST, 1), place(0, 1)), (place(0, 3), place(1, 1)),
                (place(MAST, 1), place(1, 2)))
        self.same(list(still_lots(rig, pool)), [((2, 3), qs("4 1")), ((0, 1, 2), qs("2/3 2/3 4"))])
        self.assertEqual(fewest_springs(rig, pool), 2)
        self.assertEqual(fewest_springs(rig, pool[:3]), 3)

    def test_still_rigs(self):
        for rig in (balanced(), Rig(balanced().arms)):
            for pool in ((), (SPAN,), (SPAN, (place(0, 1), place(0, 1)))):
                self.same(list(still_lots(rig, pool)), [((), ())])
                self.assertEqual(fewest_springs(rig, pool), 0)

    def test_no_lot(self):
        rig = balanced().bare()
        for pool in ((), ((place(MAST, -4), place(0, 1)),), ((place(0, 2), place(0, 1)),) * 8):
            self.same(list(still_lots(rig, pool)), [])
            self.assertIsNone(fewest_springs(rig, pool))

    def test_eight_spans(self):
        rig = balanced().bare()
        pool = tuple((place(MAST, mark), place(0, 1)) for mark in range(1, 9))
        self.same(list(still_lots(rig, pool)), [((mark - 1,), (q(frac((2, mark))),)) for mark in range(1, 9)])

    def test_drawn(self):
        draws = Draws("fewest")
        found = 0
        for _ in range(60):
            rig, pool = draws.pooled(most=5)
            told = list(still_lots(rig, pool))
            lots = [lot for lot in lots_of(len(pool)) if type(stills(rig, [pool[number] for number in lot])) is Strengths]
            self.same([lot for lot, _ in told], [lot for lot in lots if not any(set(part) < set(lot) for part in lots)])
            self.assertEqual(fewest_springs(rig, pool), min(map(len, lots)) if lots else None)
            for lot, row in told:
                found += 1
                spans = [pool[number] for number in lot]
                self.assertTrue(all(frac(strength) > 0 for strength in row))
                self.assertTrue(is_still(with_strengths(rig, spans, row)))
        self.assertGreater(found, 40)


class Bearing(Case):
    def test_by_hand(self):
        self.same(bearing_letters(balanced()), (1,))
        self.same(bearing_letters(lamp_rig()), (1, 2))
        self.same(bearing_letters(lamp_rig().bare()), (1, 2))
        self.same(bearing_letters(Rig(lamp(), (), lamp_rig().springs)), ())
        self.same(bearing_letters(Rig(lamp(), ((place(0, 1), ONE), (place(0, -1), ONE)))), ())
        self.same(bearing_letters(Rig(lamp(), ((place(1, 2), ONE), (place(0, -2), ONE)))), (2,))
        self.same(bearing_letters(Rig(tree(), ((place(5, "1/9"), ONE), (place(1, 7), q(5))))), (1, 2, 4))
        self.same(bearing_letters(Rig(free(4), ((place(3, 1), ONE), (place(MAST, 9), ONE), (place(1, -1), q("1/9"))))), (2, 4))
        self.assertEqual([needed_count(rig) for rig in (balanced(), lamp_rig(), Rig(tree()))], [1, 2, 0])

    def test_still_rigs_have_so_many_springs(self):
        draws = Draws("bearing")
        found = 0
        for _ in range(60):
            arms = free(draws.random.randint(1, 3))
            weights = [(draws.small_place(arms), ONE) for _ in range(draws.random.randint(0, 3))]
            rig = Rig(arms, weights)
            # Springs that hold the weights, and others that hold the rest between the letters.
            row = [frac(number) for number in weight_row(rig)]
            springs = [(place(MAST, 1), (letter, q(number)), ONE) for letter, number in enumerate(row) if number != 0]
            rig = Rig(arms, weights, springs)
            self.assertTrue(is_still(rig))
            bearing = bearing_letters(rig)
            self.assertEqual(bearing, tuple(letter + 1 for letter, number in enumerate(row) if number != 0))
            self.assertEqual(needed_count(rig), len(bearing))
            rows = [rig.spring_row(number) for number in range(len(rig.springs))]
            for lot in (lot for size in range(len(bearing) + 1) for lot in itertools.combinations(bearing, size)):
                found += 1
                touching = [spring for spring in rows if any(spring[letter] != ZERO for letter in lot)]
                self.assertGreaterEqual(len(touching), len(lot))
        self.assertGreater(found, 100)

    def test_other_rigs(self):
        draws = Draws("bearing letters of other rigs")
        for _ in range(30):
            rig = draws.rig()
            self.same(bearing_letters(rig.shifted(draws.ratio())), bearing_letters(rig))
            self.same(bearing_letters(rig.grown(draws.positive())), bearing_letters(rig))
            order = list(range(1, rig.arms.letters + 1))
            draws.random.shuffle(order)
            self.same(bearing_letters(rig.renamed(order)), tuple(sorted(order[letter - 1] for letter in bearing_letters(rig))))
            still = couplings_of(rig.bare())
            self.same(bearing_letters(rig), tuple(letter for letter in range(1, rig.arms.letters + 1)
                                                  if negative(still.coupling(0, letter)) != ZERO))


if __name__ == "__main__":
    unittest.main()
