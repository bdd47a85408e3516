"""owners.py [6.12]; its BadPool is tested with pools.py."""
import itertools
import unittest

from stillarms.fewest import bearing_letters
from stillarms.owners import Owners, Short, owners_of, pool_owners
from stillarms.pools import NoStrengths, Strengths, stills
from stillarms.ratios import ONE, ZERO
from stillarms.rigs import Rig
from stillarms.stillness import is_still
from tests.cases import MAST, Case, Draws, balanced, free, lamp_rig, place, q


def touching(*lots):
    """A rig on four bars that all bear, with a spring for each lot of one or two letters that it touches."""
    arms = free(4)
    return Rig(arms, [(place(bar, 1), ONE) for bar in range(4)], [spanning(*lot) + (ONE,) for lot in lots])


def spanning(one, other=None):
    """A span that touches one letter and the mast, or two letters."""
    return (place(MAST, 1) if other is None else place(other - 1, 1), place(one - 1, -1))


class OwnersTold(Case):
    def test_first_in_order(self):
        self.same(vars(owners_of(touching((1,), (2,), (3,), (4,)))), {"springs": (0, 1, 2, 3)})
        self.same(owners_of(touching((4,), (3,), (2,), (1,))).springs, (3, 2, 1, 0))
        # The first spring would do for letter 1, but letter 3 has no other one.
        self.same(owners_of(touching((1, 3), (1,), (2, 4), (2, 4), (2,))).springs, (1, 2, 0, 3))
        self.same(owners_of(touching((1, 2), (1, 2), (3, 4), (3, 4))).springs, (0, 1, 2, 3))
        self.same(owners_of(touching((1, 2), (2, 3), (3, 4), (4, 1))).springs, (0, 1, 2, 3))
        self.same(owners_of(touching((1, 2), (2, 3), (3, 4), (1, 4), (1,))).springs, (0, 1, 2, 3))

    def test_bearing_letters_alone(self):
        self.same(owners_of(balanced()).springs, (0,))
        self.same(owners_of(lamp_rig()).springs, (0, 1))
        self.same(owners_of(Rig(free(4))).springs, ())
        self.same(owners_of(Rig(free(4), (), touching((1,)).springs)).springs, ())
        rig = touching((1,), (3,), (2, 4)).without_weight(1).without_weight(1)
        self.same(bearing_letters(rig), (1, 4))
        self.same(owners_of(rig).springs, (0, 2))


class ShortTold(Case):
    def test_first_lot(self):
        self.same(vars(owners_of(touching((1,), (2,), (3,)))), {"letters": (4,), "springs": ()})
        self.same(vars(owners_of(touching((1,), (2, 4)))), {"letters": (3,), "springs": ()})
        # One spring for two letters; the lot of all four, and that of three, have too few as well.
        self.same(vars(owners_of(touching((1,), (2, 4), (3,)))), {"letters": (2, 4), "springs": (1,)})
        self.same(vars(owners_of(touching((3, 4), (1, 2), (1,)))), {"letters": (3, 4), "springs": (0,)})
        self.same(vars(owners_of(touching((4,), (2, 3), (1, 2), (4,)))), {"letters": (1, 2, 3), "springs": (1, 2)})
        self.same(vars(owners_of(touching((4, 3), (2, 3), (1, 2)))), {"letters": (1, 2, 3, 4), "springs": (0, 1, 2)})
        self.same(vars(owners_of(balanced().bare())), {"letters": (1,), "springs": ()})
        rig = touching((1, 2), (3,)).without_weight(0)
        self.same(vars(owners_of(rig)), {"letters": (4,), "springs": ()})

    def test_springs_of_no_use(self):
        # A spring along the mast and one between two places of one spot touch nothing.
        rig = balanced().bare().with_spring(place(MAST, 1), place(MAST, 5), ONE).with_spring(place(0, 1), place(0, 1), ONE)
        self.same(vars(owners_of(rig)), {"letters": (1,), "springs": ()})
        self.same(vars(owners_of(rig.with_spring(place(0, 2), place(0, 1), ONE))), {"springs": (2,)})

    def test_drawn(self):
        draws = Draws("owners")
        count = {Owners: 0, Short: 0}
        for _ in range(150):
            rig = draws.rig(springs=3)
            pool = draws.pool(rig.arms, 2) if draws.random.random() < 0.5 else ()
            letters = bearing_letters(rig)
            rows = [rig.spring_row(number) for number in range(len(rig.springs))]
            rows += [rig.arms.difference_row(*span) for span in pool]
            told = pool_owners(rig, pool)
            if pool == ():
                self.assertTrue(owners_of(rig) == told)
            count[type(told)] += 1
            right = [row for row in itertools.permutations(range(len(rows)), len(letters))
                     if all(rows[number][letter] != ZERO for number, letter in zip(row, letters))]
            if right:
                self.same(told.springs, min(right))
                self.assertIs(type(told), Owners)
                continue
            for size in range(1, len(letters) + 1):
                for lot in itertools.combinations(letters, size):
                    springs = tuple(number for number, row in enumerate(rows)
                                    if any(row[letter] != ZERO for letter in lot))
                    if len(springs) < size:
                        break
                else:
                    continue
                break
            self.assertIs(type(told), Short)
            self.same((told.letters, told.springs), (lot, springs))
            self.assertFalse(is_still(rig))
            self.assertIs(type(stills(rig, pool)), NoStrengths)
        self.assertTrue(all(many > 30 for many in count.values()), count)


class Pools(Case):
    def test_numbered_on(self):
        rig = touching((1,), (2, 3))
        self.same(pool_owners(rig, (spanning(4), spanning(3))).springs, (0, 1, 3, 2))
        self.same(pool_owners(rig, [list(spanning(4)), list(spanning(2, 3))]).springs, (0, 1, 3, 2))
        self.same(vars(pool_owners(rig, (spanning(1), spanning(4), spanning(1)))), {"letters": (2, 3), "springs": (1,)})
        self.same(vars(pool_owners(rig.bare(), (spanning(1, 2), spanning(3, 4), spanning(1, 2)))),
                  {"letters": (3, 4), "springs": (1,)})
        self.same(vars(pool_owners(touching(), ())), {"letters": (1,), "springs": ()})
        self.assertTrue(pool_owners(rig, ()) == owners_of(rig))

    def test_still_rigs(self):
        draws = Draws("owners of still rigs")
        found = 0
        for _ in range(60):
            rig, pool = draws.pooled()
            rig = rig.with_weight(draws.small_place(rig.arms), ONE)
            told = stills(rig, pool)
            if type(told) is Strengths:
                found += 1
                self.assertIs(type(pool_owners(rig, pool)), Owners)
        self.assertGreater(found, 3)

    def test_the_other_way_is_not_promised(self):
        rig = balanced().bare()
        pool = ((place(MAST, -4), place(0, 1)),)
        self.same(pool_owners(rig, pool).springs, (0,))
        self.assertIs(type(stills(rig, pool)), NoStrengths)


class Results(Case):
    def test_equality(self):
        self.assertTrue(Owners((0, 1)) == Owners((0, 1)))
        self.unlike_all(Owners((0, 1)), (Owners((1, 0)), Short((0, 1), ()), None, (0, 1)))
        self.assertTrue(Short((1,), ()) == Short((1,), ()))
        self.unlike_all(Short((1,), ()), (Short((2,), ()), Short((1,), (0,)), Owners((1,)), ((1,), ()), q(1)))


if __name__ == "__main__":
    unittest.main()
