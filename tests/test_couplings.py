"""couplings.py [4.1] to [4.3]."""
import itertools
import unittest
from fractions import Fraction

from stillarms.couplings import (Couplings, constant_of, couplings_by, couplings_of, pair_product, pairs_of,
                                 row_couplings, span_couplings, spring_couplings, weight_couplings, weight_row,
                                 zero_couplings)
from stillarms.errors import BadCouplings, BadPlace, NoLetter, NoPair, OtherLetters
from stillarms.poses import cosine_of, sine_of
from stillarms.ratios import ONE, ZERO, plus, times
from stillarms.rigs import Rig
from stillarms.works import pushes_at, work_at
from tests.cases import MAST, NO_RATIOS, ODD_THINGS, Case, Draws, balanced, frac, lamp, lamp_rig, q, qs, tree

ROWS = (qs("1 -2 1/3"), qs("0 4"), qs("-5"))
NO_LETTERS = (0, 4, -1, None, True, False, 1.0, "1", (1,))


def table(letters):
    """A table with the numbers 1, 2, 3 .."""
    return couplings_by(letters, [q(number + 1) for number in range(letters * (letters + 1) // 2)])


class Tables(Case):
    def bad(self, index, what, rows):
        self.fails(BadCouplings, {"index": index, "what": what}, Couplings, rows)

    def test_attributes(self):
        couplings = Couplings(ROWS)
        self.same((couplings.rows, couplings.letters, len(couplings)), (ROWS, 3, 6))
        self.same(couplings.numbers, qs("1 -2 1/3 0 4 -5"))
        for letters, many in ((1, 1), (2, 3), (3, 6), (4, 10)):
            made = table(letters)
            self.assertEqual((made.letters, len(made), len(made.rows)), (letters, many, letters))
            self.assertEqual([len(row) for row in made.rows], list(range(letters, 0, -1)))

    def test_lists_and_tuples(self):
        inner = list(ROWS[0])
        handed = [inner, list(ROWS[1]), ROWS[2]]
        couplings = Couplings(handed)
        inner[0] = q(77)
        handed.pop()
        self.same((couplings.rows, couplings.numbers), (ROWS, qs("1 -2 1/3 0 4 -5")))

    def test_many(self):
        for rows in ODD_THINGS + ("abc", {0: 1}, range(1), (), [], ((ONE,) * 5,) * 5, [[ONE] * n for n in (5, 4, 3, 2, 1)]):
            self.bad(0, "many", rows)

    def test_row(self):
        for row in ODD_THINGS + ((), (ONE,), (ONE, ONE), (ONE,) * 4, "abc", {0: 1, 1: 1, 2: 1}):
            self.bad(0, "row", (row,) + ROWS[1:])
        for row in ODD_THINGS + ((), (ONE,), (ONE, ONE, ONE), "ab"):
            self.bad(1, "row", [ROWS[0], row, ROWS[2]])
        self.bad(2, "row", ROWS[:2] + ((),))
        self.bad(2, "row", ROWS[:2] + (qs("1 1"),))
        self.bad(0, "row", (qs("1 1"),))

    def test_number(self):
        for number in NO_RATIOS:
            for at in range(3):
                row = list(ROWS[0])
                row[at] = number
                self.bad(0, "number", [row] + list(ROWS[1:]))
            self.bad(2, "number", ROWS[:2] + ((number,),))

    def test_two_faults(self):
        self.bad(0, "number", ((1, ONE), None))
        self.bad(0, "row", (None, (1,)))
        self.bad(1, "row", (qs("1 2"), (1, 2)))
        self.bad(1, "number", ((ONE, ONE, ONE), (ONE, 1), None))

    def test_equality(self):
        self.assertTrue(Couplings(ROWS) == Couplings([list(row) for row in ROWS]))
        self.unlike_all(Couplings(ROWS), (table(3), table(1), ROWS, Couplings(ROWS).numbers, None, 6, lamp()))
        self.unlike_all(zero_couplings(1), (zero_couplings(2), 0, None, False))

    def test_coupling(self):
        couplings = Couplings(ROWS)
        told = {(0, 1): "1", (0, 2): "-2", (0, 3): "1/3", (1, 2): "0", (1, 3): "4", (2, 3): "-5"}
        for (one, other), number in told.items():
            self.same(couplings.coupling(one, other), q(number))
            self.same(couplings.coupling(other, one), q(number))

    def test_no_pair(self):
        couplings = Couplings(ROWS)
        for one, other in ((0, 0), (3, 3), (0, 4), (4, 0), (-1, 0), (0, -1), (True, 0), (2, True), (None, 1), (1, "2"),
                           (1.0, 2), (4, 4), (False, 1), ((0,), 1)):
            self.fails(NoPair, {"one": one, "other": other}, couplings.coupling, one, other)
        self.fails(NoPair, {"one": 1, "other": 2}, table(1).coupling, 1, 2)

    def test_added(self):
        self.same(Couplings(ROWS).added(table(3)).numbers, qs("2 0 10/3 4 9 1"))
        self.fails(OtherLetters, {}, table(3).added, table(2))
        self.fails(OtherLetters, {}, table(3).added, table(4))

    def test_scaled_and_opposite(self):
        couplings = Couplings(ROWS)
        self.same(couplings.scaled(q("-3/2")).numbers, qs("-3/2 3 -1/2 0 -6 15/2"))
        self.assertTrue(couplings.scaled(ZERO) == zero_couplings(3))
        self.same(couplings.opposite().numbers, qs("-1 2 -1/3 0 -4 5"))
        self.same(couplings.numbers, qs("1 -2 1/3 0 4 -5"))

    def test_is_zero(self):
        for letters in range(1, 5):
            self.assertIs(zero_couplings(letters).is_zero(), True)
            self.assertIs(table(letters).is_zero(), False)
            for at in range(len(zero_couplings(letters))):
                numbers = list(zero_couplings(letters).numbers)
                numbers[at] = q(-1)
                self.assertIs(couplings_by(letters, numbers).is_zero(), False)

    def test_greatest_push(self):
        couplings = Couplings(ROWS)
        self.same([couplings.greatest_push(letter) for letter in (1, 2, 3)], list(qs("5 7 28/3")))
        self.same(couplings_by(1, (q(-3),)).greatest_push(1), q(3))
        for letter in NO_LETTERS:
            self.fails(NoLetter, {"letter": letter}, couplings.greatest_push, letter)
        self.fails(NoLetter, {"letter": 2}, table(1).greatest_push, 2)


class MakingTables(Case):
    def test_pairs(self):
        self.same(pairs_of(1), ((0, 1),))
        self.same(pairs_of(3), ((0, 1), (0, 2), (0, 3), (1, 2), (1, 3), (2, 3)))
        self.same(pairs_of(4), tuple(itertools.combinations(range(5), 2)))

    def test_zeros(self):
        self.same(zero_couplings(2).rows, (qs("0 0"), qs("0")))
        self.same(zero_couplings(4).numbers, (ZERO,) * 10)

    def test_by_numbers(self):
        self.same(couplings_by(3, qs("1 -2 1/3 0 4 -5")).rows, ROWS)
        self.same(couplings_by(3, list(qs("1 -2 1/3 0 4 -5"))).rows, ROWS)
        self.same(couplings_by(1, qs("7")).rows, (qs("7"),))
        self.same(table(4).rows, (qs("1 2 3 4"), qs("5 6 7"), qs("8 9"), qs("10")))

    def test_by_row(self):
        self.same(row_couplings(qs("2 -1 1/2")).rows, (qs("-2 1"), qs("-1/2")))
        self.same(row_couplings(list(qs("3 4"))).rows, (qs("12"),))
        self.same(row_couplings(qs("1 0 2 0 3")).rows, (qs("0 2 0 3"), qs("0 0 0"), qs("0 6"), qs("0")))

    def test_by_span(self):
        self.same(span_couplings(lamp(), (MAST, q(4)), [1, ONE]).numbers, qs("-8 -4 2"))
        for thing in ODD_THINGS + ((), (2, ONE), (0, 1)):
            self.fails(BadPlace, {}, span_couplings, lamp(), thing, (0, ONE))
            self.fails(BadPlace, {}, span_couplings, lamp(), (0, ONE), thing)

    def test_product(self):
        self.same(pair_product(Couplings(ROWS), table(3)), q(1 - 4 + 1 + 0 + 20 - 30))
        self.same(pair_product(table(1), table(1)), ONE)
        self.fails(OtherLetters, {}, pair_product, table(1), table(2))
        self.fails(OtherLetters, {}, pair_product, table(4), table(3))


class TablesOfRigs(Case):
    def test_a_rig(self):
        # Weights: 2 * (0, 2, 3) and 1/2 * (0, 1, 0). Springs: 1/2 * (4, -1, 0) and 3 * (1, -2, -1).
        rig = lamp_rig()
        self.same(weight_row(rig), qs("9/2 6"))
        self.same(weight_couplings(rig).numbers, qs("9/2 6 0"))
        self.same(spring_couplings(rig).numbers, qs("-8 -3 6"))
        self.same(couplings_of(rig).numbers, qs("-7/2 3 6"))
        # 1/4 * (16 + 1) and 3/2 * (1 + 4 + 1).
        self.same(constant_of(rig), q("53/4"))

    def test_balanced_and_empty(self):
        self.assertTrue(couplings_of(balanced()) == zero_couplings(1))
        self.same((weight_row(balanced()), constant_of(balanced())), (qs("2"), q("17/4")))
        for arms in (lamp(), tree()):
            rig = Rig(arms)
            for function in (couplings_of, weight_couplings, spring_couplings):
                self.assertTrue(function(rig) == zero_couplings(arms.letters))
            self.same((weight_row(rig), constant_of(rig)), ((ZERO,) * arms.letters, ZERO))

    def test_constant_of_weights_on_the_mast(self):
        rig = Rig(tree(), (((MAST, q(3)), q(2)), ((5, ONE), q(4))))
        self.same(constant_of(rig), q(4))
        self.same(weight_row(rig), qs("8 20 0 4"))

    def test_by_the_formulas(self):
        draws = Draws("couplings")
        for _ in range(40):
            rig = draws.rig()
            many = rig.arms.letters + 1
            rows = [([frac(n) for n in rig.arms.row_of(place)], frac(amount)) for place, amount in rig.weights]
            spans = [([frac(n) for n in rig.spring_row(k)], frac(rig.springs[k][2])) for k in range(len(rig.springs))]
            for j, k in itertools.combinations(range(many), 2):
                told = sum((strength * row[j] * row[k] for row, strength in spans), Fraction(0))
                if j == 0:
                    told += sum(amount * row[k] for row, amount in rows)
                self.same(couplings_of(rig).coupling(j, k), q(told))
            told = sum((amount * row[0] for row, amount in rows), Fraction(0))
            told += sum(strength / 2 * sum(number ** 2 for number in row) for row, strength in spans)
            self.same(constant_of(rig), q(told))
            self.assertTrue(couplings_of(rig) == weight_couplings(rig).added(spring_couplings(rig)))

    def test_works_and_pushes_by_places_and_by_couplings(self):
        draws = Draws("works and pushes")
        for _ in range(40):
            rig = draws.rig()
            arms, couplings = rig.arms, couplings_of(rig)
            for _ in range(3):
                pose = draws.pose(arms)
                work = constant_of(rig)
                for j, k in pairs_of(arms.letters):
                    work = plus(work, times(couplings.coupling(j, k), cosine_of(arms, pose, j, k)))
                self.same(work, work_at(rig, pose))
                for k, push in enumerate(pushes_at(rig, pose), 1):
                    told = ZERO
                    for j in range(arms.letters + 1):
                        if j != k:
                            told = plus(told, times(couplings.coupling(j, k), sine_of(arms, pose, j, k)))
                    self.same(told, push)
                    self.assertLessEqual(abs(frac(push)), frac(couplings.greatest_push(k)))


if __name__ == "__main__":
    unittest.main()
