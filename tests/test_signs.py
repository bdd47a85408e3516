"""signs.py [4.4], [4.5]."""
import itertools
import unittest

from stillarms.couplings import couplings_by, pairs_of, zero_couplings
from stillarms.signs import OddRing, Signs, groups_of, ring_fault, signs_fault, signs_for
from tests.cases import ODD_THINGS, Case, Draws, q, qs


def table(letters, **coupled):
    """The table in which the pairs named like c12 have these numbers and all others 0."""
    return couplings_by(letters, [q(coupled.get(f"c{one}{other}", 0)) for one, other in pairs_of(letters)])


def all_signs(couplings):
    """All signs of a table by their definition."""
    letters = range(couplings.letters + 1)
    return [signs for signs in itertools.product((1, -1), repeat=len(letters))
            if all(couplings.coupling(j, k)[0] * signs[j] * signs[k] <= 0 for j, k in itertools.combinations(letters, 2))]


class Groups(Case):
    def test_groups(self):
        self.same(groups_of(zero_couplings(1)), ((0,), (1,)))
        self.same(groups_of(zero_couplings(4)), ((0,), (1,), (2,), (3,), (4,)))
        self.same(groups_of(table(1, c01=-1)), ((0, 1),))
        self.same(groups_of(table(4, c13=1, c24="-1/2")), ((0,), (1, 3), (2, 4)))
        self.same(groups_of(table(4, c04=1, c12=1, c23=-1)), ((0, 4), (1, 2, 3)))
        self.same(groups_of(table(4, c34=1, c23=1, c14=5)), ((0,), (1, 2, 3, 4)))
        self.same(groups_of(table(4, c02=1, c13=1, c23=1)), ((0, 1, 2, 3), (4,)))
        self.same(groups_of(table(4, c34=1, c12=1, c24=1)), ((0,), (1, 2, 3, 4)))
        self.same(groups_of(table(3, c01=1, c02=1, c03=1, c12=1)), ((0, 1, 2, 3),))

    def test_by_chains(self):
        draws = Draws("groups")
        for _ in range(60):
            letters = draws.random.randint(1, 4)
            couplings = couplings_by(letters, [draws.random.choice(qs("0 0 0 1 -2")) for _ in pairs_of(letters)])
            left, told = list(range(letters + 1)), []
            while left:
                group = [left.pop(0)]
                for one in group:
                    for other in list(left):
                        if couplings.coupling(one, other) != q(0):
                            left.remove(other)
                            group.append(other)
                told.append(tuple(sorted(group)))
            self.same(groups_of(couplings), tuple(told))


class SignsOrRing(Case):
    def test_signs(self):
        self.same(signs_for(zero_couplings(1)).signs, (1, 1))
        self.same(signs_for(table(1, c01=3)).signs, (1, -1))
        self.same(signs_for(table(1, c01=-3)).signs, (1, 1))
        self.same(signs_for(table(2, c12=1)).signs, (1, 1, -1))
        self.same(signs_for(table(3, c01=1, c12=1, c23=1)).signs, (1, -1, 1, -1))
        self.same(signs_for(table(4, c03=1, c14=2, c24=-1)).signs, (1, 1, -1, -1, -1))

    def test_odd_rings(self):
        for couplings, letters in ((table(2, c01=1, c02=1, c12=1), {0, 1, 2}), (table(2, c01=1, c02=-1, c12=-1), {0, 1, 2}),
                                   (table(3, c12=-2, c23=-1, c13=5), {1, 2, 3}),
                                   (table(3, c01=-1, c12=-1, c23=-1, c03=1), {0, 1, 2, 3}),
                                   (table(4, c01=1, c12=1, c23=1, c34=1, c04=1), {0, 1, 2, 3, 4})):
            told = signs_for(couplings)
            self.assertIs(type(told), OddRing)
            self.assertIs(type(told.letters), tuple)
            self.assertEqual(set(told.letters), letters)
            self.assertIsNone(ring_fault(couplings, told))

    def test_webs_of_one_to_four_letters(self):
        kinds = {Signs: 0, OddRing: 0}
        draws = Draws("signs")
        tables = [couplings_by(letters, numbers) for letters in (1, 2)
                  for numbers in itertools.product(qs("0 1/2 -3"), repeat=len(pairs_of(letters)))]
        for letters in (3, 4):
            tables += [couplings_by(letters, [draws.random.choice(qs("0 1 -1")) for _ in pairs_of(letters)])
                       for _ in range(80)]
        for couplings in tables:
            told, right = signs_for(couplings), all_signs(couplings)
            kinds[type(told)] += 1
            if right:
                self.assertIs(type(told), Signs)
                self.assertIsNone(signs_fault(couplings, told))
                only = [signs for signs in right if all(signs[group[0]] == 1 for group in groups_of(couplings))]
                self.same([told.signs], only)
            else:
                self.assertIs(type(told), OddRing)
                self.assertIsNone(ring_fault(couplings, told))
        self.assertGreater(min(kinds.values()), 20)

    def test_results(self):
        for kind, name in ((Signs, "signs"), (OddRing, "letters")):
            self.assertEqual(vars(kind([1, None])), {name: [1, None]})
            self.assertTrue(kind((1, 1)) == kind((1, 1)))
            self.unlike_all(kind((1, 1)), (kind((1, -1)), kind([1, 1]), (1, 1), None))
        self.unlike_all(Signs((0, 1, 2)), (OddRing((0, 1, 2)),))


class Judges(Case):
    def test_signs_fault(self):
        couplings = table(3, c01=1, c12=-1)
        for signs in ((1, -1, -1, 1), (1, -1, -1, -1), (-1, 1, 1, 1), [-1, 1, 1, -1]):
            self.assertIsNone(signs_fault(couplings, Signs(signs)))
        for signs in ((1, 1, 1, 1), (1, -1, 1, 1), [1, 1, -1, 1]):
            self.assertEqual(signs_fault(couplings, Signs(signs)), "coupling")
        for signs in ODD_THINGS + ((), (1, -1, -1), (1, -1, -1, 1, 1), (1, -1, -1, 0), (1, -1, -1, 2), (1, -1, -1, True),
                                   (True, True, True, True), (1, -1, -1.0, 1), (1, -1, "-1", 1), "1111", (1, 1, 1, None),
                                   ((1, 1), 1, 1, 1), {0: 1, 1: 1, 2: 1, 3: 1}, range(4), (1, 1, 1, -2)):
            self.assertEqual(signs_fault(couplings, Signs(signs)), "signs")

    def test_ring_fault(self):
        couplings = table(4, c01=1, c12=1, c02=1, c23=-1, c03=2, c34=1, c04=1)
        for ring in ((0, 1, 2), [1, 0, 2], (2, 1, 0), (0, 3, 4), (3, 0, 4)):
            self.assertIsNone(ring_fault(couplings, OddRing(ring)))
        for ring in ((0, 2, 3), [3, 2, 0], (3, 0, 2)):
            self.assertEqual(ring_fault(couplings, OddRing(ring)), "even")
        for ring in ((0, 2, 1, 3), (0, 1, 3), (1, 2, 3), (1, 2, 4), (0, 1, 2, 4), (4, 2, 0)):
            self.assertEqual(ring_fault(couplings, OddRing(ring)), "coupled")
        for ring in ODD_THINGS + ((), (0,), (0, 1), (0, 1, 5), (0, 1, -1), (0, 1, True), (0, 1, 1), (0, 1, 2, 0),
                                  (False, 1, 2), (0, 1.0, 2), "012", (0, 1, "2"), (0, 1, (2,)), (0, 1, None),
                                  (0, 1, 2, 3, 4, 0), (5, 6, 7), {0: 1, 1: 2, 2: 3}, range(3), {0, 1, 2}):
            self.assertEqual(ring_fault(couplings, OddRing(ring)), "letters")

    def test_longer_rings(self):
        couplings = table(3, c01=-1, c12=-1, c23=-1, c03=1)
        self.assertIsNone(ring_fault(couplings, OddRing((0, 1, 2, 3))))
        self.assertIsNone(ring_fault(couplings, OddRing([2, 1, 0, 3])))
        self.assertEqual(ring_fault(couplings, OddRing((0, 2, 1, 3))), "coupled")
        self.assertEqual(ring_fault(table(3, c01=-1, c12=1, c23=-1, c03=1), OddRing((0, 1, 2, 3))), "even")
        self.assertEqual(ring_fault(zero_couplings(3), OddRing((0, 1, 2))), "coupled")


if __name__ == "__main__":
    unittest.main()
