"""worktables.py [4.11], [4.12]."""
import itertools
import unittest
from fractions import Fraction

from stillarms.couplings import (Couplings, constant_of, couplings_by, couplings_of, pairs_of, row_couplings,
                                 zero_couplings)
from stillarms.errors import BadWorks
from stillarms.poses import flat_poses
from stillarms.ratios import ONE, ZERO, plus
from stillarms.stillness import is_still, work_by
from stillarms.works import work_at
from stillarms.worktables import OneSpring, Tangled, WorkSplit, flat_works, one_spring, split_works
from tests.cases import NO_RATIOS, ODD_THINGS, Case, Draws, balanced, frac, fracs, lamp_rig, q, qs


def tangle(works, letters, lot):
    """The tangle of a lot by its definition."""
    total = Fraction(0)
    for downs, work in zip(itertools.product((0, 1), repeat=letters), works):
        total += frac(work) * (-1) ** sum(downs[letter - 1] for letter in lot)
    return total


class FlatWorks(Case):
    def test_works(self):
        self.same(flat_works(q(10), couplings_by(1, qs("3"))), qs("13 7"))
        self.same(flat_works(q("1/2"), couplings_by(2, qs("1 -2 4"))), qs("7/2 -1/2 -13/2 11/2"))
        self.same(flat_works(ONE, zero_couplings(3)), (ONE,) * 8)

    def test_of_rigs(self):
        draws = Draws("flat works")
        for rig in [lamp_rig(), balanced()] + [draws.rig() for _ in range(20)]:
            told = flat_works(constant_of(rig), couplings_of(rig))
            self.same(told, tuple(work_at(rig, pose) for pose in flat_poses(rig.arms)))
            self.assertEqual(is_still(rig), len(set(told)) == 1)
            self.same(told, tuple(plus(constant_of(rig), work_by(couplings_of(rig), pose))
                                  for pose in flat_poses(rig.arms)))


class Split(Case):
    def test_there_and_back(self):
        draws = Draws("split")
        for letters in (1, 2, 3, 4):
            for _ in range(12):
                couplings = couplings_by(letters, [draws.ratio() for _ in pairs_of(letters)])
                constant = draws.ratio()
                works = flat_works(constant, couplings)
                for handed in (works, list(works)):
                    told = split_works(handed)
                    self.assertTrue(told == WorkSplit(constant, couplings))
                    self.assertIs(type(told.couplings), Couplings)

    def test_one_and_two_letters_always_split(self):
        draws = Draws("few")
        for many in (2, 4):
            for _ in range(20):
                works = tuple(draws.ratio() for _ in range(many))
                told = split_works(works)
                self.same(flat_works(told.constant, told.couplings), works)
        self.same(split_works(qs("1 2")).constant, q("3/2"))
        self.same(split_works(qs("1 2")).couplings.rows, (qs("-1/2"),))
        self.same(split_works(qs("1 0 0 0")).couplings.numbers, qs("1/4 1/4 1/4"))

    def test_tangled(self):
        self.same(vars(split_works(qs("1 0 0 0 0 0 0 0"))), {"letters": (1, 2, 3)})
        for lot in ((1, 2, 3), (1, 2, 4), (1, 3, 4), (2, 3, 4), (1, 2, 3, 4)):
            # Works that are 1 or -1 as many letters of the lot are down have just this tangle.
            works = tuple(q((-1) ** sum(downs[letter - 1] for letter in lot))
                          for downs in itertools.product((0, 1), repeat=4))
            self.same(vars(split_works(works)), {"letters": lot})

    def test_first_tangled_lot(self):
        draws = Draws("tangled")
        kinds = {Tangled: 0, WorkSplit: 0}
        for _ in range(80):
            letters = draws.random.choice((3, 4))
            couplings = couplings_by(letters, [draws.ratio() for _ in pairs_of(letters)])
            works = list(flat_works(draws.ratio(), couplings))
            lots = [lot for size in (3, 4) for lot in itertools.combinations(range(1, letters + 1), size)]
            for lot in draws.random.sample(lots, min(len(lots), draws.random.randint(0, 2))):
                works = [plus(work, q((-1) ** sum(downs[letter - 1] for letter in lot)))
                         for downs, work in zip(itertools.product((0, 1), repeat=letters), works)]
            wrong = [lot for lot in lots if tangle(works, letters, lot) != 0]
            told = split_works(works)
            kinds[type(told)] += 1
            if wrong:
                self.same(vars(told), {"letters": wrong[0]})
            else:
                self.same(flat_works(told.constant, told.couplings), tuple(works))
        self.assertGreater(min(kinds.values()), 10)

    def test_bad_works(self):
        for many in (0, 1, 3, 5, 6, 7, 9, 12, 15, 17, 32):
            self.fails(BadWorks, {}, split_works, (ONE,) * many)
            self.fails(BadWorks, {}, split_works, [ONE] * many)
        for number in NO_RATIOS:
            self.fails(BadWorks, {}, split_works, (ONE, number))
            self.fails(BadWorks, {}, split_works, [number, ONE, ONE, ONE])
        for thing in ODD_THINGS + ("ab", {ONE: 1, ZERO: 2}, range(2), iter((ONE, ONE)), {ONE, ZERO}):
            self.fails(BadWorks, {}, split_works, thing)

    def test_results(self):
        split = WorkSplit("a", [1])
        self.assertEqual(vars(split), {"constant": "a", "couplings": [1]})
        self.assertTrue(split == WorkSplit(couplings=[1], constant="a"))
        self.unlike_all(split, (WorkSplit("b", [1]), WorkSplit("a", [2]), ("a", [1]), None))
        self.assertTrue(Tangled([1]) == Tangled([1]))
        self.assertEqual(vars(Tangled([1])), {"letters": [1]})
        self.unlike_all(Tangled([1]), (Tangled((1,)), Tangled([2]), [1], None))
        spring = OneSpring(None, [1])
        self.assertEqual(vars(spring), {"strength": None, "row": [1]})
        self.assertTrue(spring == OneSpring(row=[1], strength=None))
        self.unlike_all(spring, (OneSpring(0, [1]), OneSpring(None, [2]), (None, [1]), None))


class OneSpringAlone(Case):
    def check(self, couplings, strength, row):
        self.same(vars(one_spring(couplings)), {"strength": q(strength), "row": qs(row)})

    def test_nothing_coupled(self):
        self.check(zero_couplings(1), 1, "0 0")
        self.check(zero_couplings(4), 1, "0 0 0 0 0")

    def test_two_letters(self):
        self.check(couplings_by(1, qs("-3/2")), "3/2", "1 -1")
        self.check(couplings_by(1, qs("5")), 5, "1 1")
        self.check(couplings_by(3, qs("0 0 0 0 0 -7")), 7, "0 0 1 -1")
        self.check(couplings_by(3, qs("0 0 0 0 2 0")), 2, "0 1 0 1")

    def test_more_letters(self):
        self.check(couplings_by(2, qs("6 9 6")), 9, "1 2/3 1")
        self.check(couplings_by(2, qs("-2 6 -3")), 4, "1 -1/2 3/2")
        self.check(couplings_by(3, qs("0 0 0 2 -4 -2")), 4, "0 1 1/2 -1")
        self.check(row_couplings(qs("2 -1 0 3 1/2")).scaled(q(5)), 20, "1 -1/2 0 3/2 1/4")

    def test_none(self):
        for letters, numbers in ((2, "6 9 -6"), (2, "-6 -9 -6"), (2, "1 1 0"), (2, "0 1 1"), (2, "1 0 1"),
                                 (3, "1 0 0 0 0 1"), (3, "1 1 1 1 1 2"), (3, "1 1 1 1 1 0"), (3, "1 1 0 1 1 1"),
                                 (3, "1 1 1 1 1 -1"), (3, "0 1 1 1 0 0"), (3, "2 2 2 1 2 1"), (4, "1 1 1 0 1 1 0 1 0 1")):
            self.assertIsNone(one_spring(couplings_by(letters, qs(numbers))), numbers)

    def test_of_springs(self):
        draws = Draws("one spring")
        for _ in range(80):
            letters = draws.random.randint(1, 4)
            row = tuple(draws.random.choice((ZERO, draws.ratio(), draws.ratio())) for _ in range(letters + 1))
            couplings = row_couplings(row).scaled(draws.positive())
            told = one_spring(couplings)
            self.assertTrue(row_couplings(told.row).scaled(told.strength) == couplings)
            self.assertGreater(frac(told.strength), 0)
            moved = [letter for letter, number in enumerate(row) if number != ZERO]
            if len(moved) > 1:
                self.assertEqual(told.row[moved[0]], ONE)
                self.assertEqual([letter for letter, number in enumerate(told.row) if number != ZERO], moved)
            else:
                self.assertEqual(set(fracs(told.row)), {Fraction(0)})
            if len(moved) == 2:
                self.assertEqual(frac(told.strength), abs(frac(couplings.coupling(*moved))))

    def test_tables_that_no_spring_has(self):
        # None is told just where no strength and row at all fit, by the products around each four and three letters.
        for numbers in itertools.product(qs("-1 0 1 2"), repeat=3):
            couplings = couplings_by(2, numbers)
            one, other, third = fracs(numbers)
            many = sum(number != 0 for number in (one, other, third))
            self.assertEqual(one_spring(couplings) is not None, many < 2 or one * other * third > 0)


if __name__ == "__main__":
    unittest.main()
