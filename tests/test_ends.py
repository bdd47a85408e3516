"""ends.py [6.13]; its BadPool is tested with pools.py."""
import unittest

from stillarms.ends import Ends, needed_springs, only_strengths, strength_ends, usable_springs
from stillarms.errors import NoSuch
from stillarms.fewest import still_lots
from stillarms.pooljudge import stills_fault
from stillarms.pools import NoStrengths, Strengths, stills
from stillarms.ratios import ONE, ZERO
from stillarms.rigs import Rig
from tests.cases import MAST, ODD_THINGS, Case, Draws, balanced, frac, fracs, lamp, place, q, qs

# Spans with the couplings -4, -8, 4 and 0 on one bar, whose weight has the coupling 2.
DOWN, STEEP, BACK, IDLE = ((place(MAST, 4), place(0, 1)), (place(MAST, 4), place(0, 2)), (place(MAST, -4), place(0, 1)),
                           (place(0, 2), place(0, 1)))


def loaded():
    return balanced().bare()


class EndsTold(Case):
    def ends(self, rig, pool, number):
        told = strength_ends(rig, pool, number)
        self.assertIs(type(told), Ends)
        return (told.least, told.greatest)

    def test_with_an_end(self):
        self.same(self.ends(loaded(), (DOWN,), 0), qs("1/2 1/2"))
        self.same(self.ends(loaded(), (DOWN, STEEP), 0), qs("0 1/2"))
        self.same(self.ends(loaded(), [list(DOWN), list(STEEP)], 1), qs("0 1/4"))
        self.same(self.ends(balanced(), (DOWN, STEEP), 1), qs("0 0"))

    def test_without_an_end(self):
        self.same(self.ends(loaded(), (DOWN, BACK), 0), (q("1/2"), None))
        self.same(self.ends(loaded(), (DOWN, BACK), 1), (ZERO, None))
        self.same(self.ends(loaded(), (DOWN, IDLE), 1), (ZERO, None))
        self.same(self.ends(balanced(), (IDLE,), 0), (ZERO, None))
        # The two spans only hold each other where the rig is held.
        self.same(self.ends(balanced().with_amount(0, q("1/2")), (DOWN, BACK), 1), (q("1/4"), None))

    def test_none_still_it(self):
        for pool in ((BACK,), (IDLE, BACK)):
            told = strength_ends(loaded(), pool, 0)
            self.assertIs(type(told), NoStrengths)
            self.assertIsNone(stills_fault(loaded(), pool, told))

    def test_no_such(self):
        for number in ODD_THINGS + (2, -1, (0,), [1], 0.0, ONE):
            self.fails(NoSuch, {"number": number}, strength_ends, loaded(), (DOWN, BACK), number)
            self.fails(NoSuch, {"number": number}, strength_ends, loaded(), (BACK, BACK), number)
        self.fails(NoSuch, {"number": 0}, strength_ends, balanced(), (), 0)
        self.fails(NoSuch, {"number": True}, strength_ends, loaded(), (DOWN, BACK), True)


class Springs(Case):
    def told(self, rig, pool):
        return (needed_springs(rig, pool), usable_springs(rig, pool), only_strengths(rig, pool))

    def test_by_hand(self):
        self.same(self.told(loaded(), (DOWN,)), ((0,), (0,), qs("1/2")))
        self.same(self.told(loaded(), (DOWN, STEEP)), ((), (0, 1), None))
        self.same(self.told(loaded(), [list(BACK), list(DOWN)]), ((1,), (0, 1), None))
        self.same(self.told(loaded(), (IDLE, DOWN)), ((1,), (0, 1), None))
        self.same(self.told(loaded(), (STEEP, DOWN, STEEP)), ((), (0, 1, 2), None))
        # A span that two letters of the rest do not let be used.
        rig = Rig(lamp(), ((place(0, 2), ONE),))
        pool = ((place(MAST, 1), place(0, 1)), (place(MAST, 1), place(1, 2)))
        self.same(self.told(rig, pool), ((0,), (0,), qs("2 0")))

    def test_still_rigs(self):
        self.same(self.told(balanced(), ()), ((), (), ()))
        self.same(self.told(balanced(), (DOWN, STEEP)), ((), (), qs("0 0")))
        self.same(self.told(balanced(), (DOWN, BACK)), ((), (0, 1), None))
        self.same(self.told(balanced(), (IDLE,)), ((), (0,), None))

    def test_no_row(self):
        for pool in ((), (BACK,), (IDLE,)):
            self.same(self.told(loaded(), pool), (None, None, None))

    def test_only_row_of_several_springs(self):
        rig = Rig(lamp(), ((place(1, 2), ONE),))
        pool = ((place(MAST, 1), place(1, 3)), (place(MAST, 1), place(0, 1)), (place(0, 3), place(1, 1)))
        self.same(self.told(rig, pool), ((0, 1, 2), (0, 1, 2), qs("2/3 2/3 4")))

    def test_drawn(self):
        draws = Draws("ends")
        found = 0
        for _ in range(60):
            rig, pool = draws.pooled(most=5)
            if type(stills(rig, pool)) is NoStrengths:
                self.same(self.told(rig, pool), (None, None, None))
                for number in range(len(pool)):
                    self.assertIsNone(stills_fault(rig, pool, strength_ends(rig, pool, number)))
                continue
            found += 1
            # The lean rows, each with 0 for the other spans, are the corners of all rows.
            rows = [[frac(row[lot.index(number)]) if number in lot else 0 for number in range(len(pool))]
                    for lot, row in still_lots(rig, pool)]
            # A span may be endless just if some row of a still rig uses it.
            empty = Rig(rig.arms)
            ends = [strength_ends(rig, pool, number) for number in range(len(pool))]
            for number, told in enumerate(ends):
                self.assertEqual(frac(told.least), min(row[number] for row in rows))
                rest = pool[:number] + pool[number + 1:]
                turning = type(stills(empty.with_spring(*pool[number], ONE), rest)) is Strengths
                self.assertEqual(told.greatest is None, turning)
                if told.greatest is not None:
                    self.assertEqual(frac(told.greatest), max(row[number] for row in rows))
            self.same(needed_springs(rig, pool), tuple(number for number, told in enumerate(ends) if frac(told.least) > 0))
            self.same(usable_springs(rig, pool), tuple(number for number, told in enumerate(ends) if told.greatest != ZERO))
            only = only_strengths(rig, pool)
            self.assertEqual(only is None, any(told.least != told.greatest for told in ends))
            if only is not None:
                self.assertEqual([fracs(only)], rows)
        self.assertGreater(found, 20)


class Results(Case):
    def test_equality(self):
        self.assertTrue(Ends(ONE, None) == Ends(ONE, None))
        self.unlike_all(Ends(ONE, None), (Ends(ONE, ONE), Ends(ZERO, None), None, (ONE, None)))


if __name__ == "__main__":
    unittest.main()
