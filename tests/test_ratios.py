"""ratios.py [1.1] to [1.3], [0.1]."""
import unittest
from fractions import Fraction

from stillarms.errors import BadRatio
from stillarms.ratios import (HALF, ONE, ZERO, compare, greatest_of, is_ratio, is_whole, least_of, make_ratio, minus,
                              negative, over, plus, ratio_of, ratio_text, size_of, sum_of, times)
from tests.cases import NO_RATIOS, ODD_THINGS, Case, Draws, frac, q, qs

BIG = 10 ** 299 + 7


class Making(Case):
    def test_constants(self):
        self.same((ZERO, ONE, HALF), ((0, 1), (1, 1), (1, 2)))

    def test_whole_numbers(self):
        for number in (0, 1, -1, 7, -BIG, BIG):
            self.assertIs(is_whole(number), True)
        for thing in ODD_THINGS + ((1,), [1], (1, 1), 0.0):
            self.assertIs(is_whole(thing), False)
            self.assertIs(is_whole(thing, 0, 5), False)

    def test_whole_numbers_within_ends(self):
        told = [number for number in range(-3, 9) if is_whole(number, 2, 5)]
        self.assertEqual(told, [2, 3, 4, 5])
        self.assertEqual([number for number in range(-3, 4) if is_whole(number, 0)], [0, 1, 2, 3])
        self.assertEqual([number for number in range(-3, 4) if is_whole(number, high=0)], [-3, -2, -1, 0])
        self.assertEqual([number for number in range(-3, 4) if is_whole(number, low=-1, high=-1)], [-1])
        self.assertIs(is_whole(3, 5, 2), False)
        self.assertIs(is_whole(True, 0, 1), False)

    def test_ratios(self):
        for ratio in ((0, 1), (1, 1), (-1, 1), (3, 7), (-3, 7), (BIG, 10 ** 300), (-BIG, BIG - 1)):
            self.assertIs(is_ratio(ratio), True)
        for thing in NO_RATIOS + ([0, 1], [], (6, 4), (-6, 4), (BIG * 3, BIG), (5, 5)):
            self.assertIs(is_ratio(thing), False, repr(thing))

    def test_lowest_terms(self):
        for top, bottom, told in ((6, 4, (3, 2)), (-6, 4, (-3, 2)), (6, -4, (-3, 2)), (-6, -4, (3, 2)), (0, 5, (0, 1)),
                                  (0, -5, (0, 1)), (5, 5, (1, 1)), (7, -1, (-7, 1)), (BIG * 6, BIG * 9, (2, 3)),
                                  (-BIG * 6, BIG * 9, (-2, 3)), (1, BIG, (1, BIG))):
            self.same(make_ratio(top, bottom), told)
        self.same(make_ratio(4), (4, 1))
        self.same(make_ratio(top=4, bottom=6), (2, 3))

    def test_bad_tops_and_bottoms(self):
        for thing in ODD_THINGS + ((1, 2), [1], 0.5):
            self.fails(BadRatio, {"what": "top"}, make_ratio, thing)
            self.fails(BadRatio, {"what": "top"}, make_ratio, thing, 0)
            self.fails(BadRatio, {"what": "top"}, make_ratio, thing, thing)
            self.fails(BadRatio, {"what": "bottom"}, make_ratio, 1, thing)
        self.fails(BadRatio, {"what": "bottom"}, make_ratio, 1, 0)
        self.fails(BadRatio, {"what": "bottom"}, make_ratio, 0, 0)


class Counting(Case):
    def test_against_fractions(self):
        draws = Draws("ratios")
        for _ in range(300):
            one, other = draws.ratio(-20, 20), draws.ratio(-20, 20)
            left, right = frac(one), frac(other)
            self.same(plus(one, other), q(left + right))
            self.same(minus(one, other), q(left - right))
            self.same(times(one, other), q(left * right))
            if right != 0:
                self.same(over(one, other), q(left / right))
            self.same(negative(one), q(-left))
            self.same(size_of(one), q(abs(left)))
            self.same(compare(one, other), (left > right) - (left < right))

    def test_many_figures(self):
        one, other = (BIG, 10 ** 300), (-BIG + 1, 3 ** 600)
        self.same(plus(one, other), q(Fraction(*one) + Fraction(*other)))
        self.same(minus(one, other), q(Fraction(*one) - Fraction(*other)))
        self.same(times(one, other), q(Fraction(*one) * Fraction(*other)))
        self.same(over(one, other), q(Fraction(*one) / Fraction(*other)))
        self.assertEqual(compare((BIG, BIG + 1), (BIG - 1, BIG)), 1)
        self.assertEqual(compare((BIG, BIG + 1), (BIG + 1, BIG + 2)), -1)

    def test_division_by_zero(self):
        self.fails(BadRatio, {"what": "zero"}, over, ONE, ZERO)
        self.fails(BadRatio, {"what": "zero"}, over, ZERO, ZERO)
        self.same(over(ZERO, q(-3)), ZERO)
        self.same(over(ONE, q("-2/3")), q("-3/2"))

    def test_order(self):
        self.assertEqual([compare(q("1/3"), other) for other in qs("1/2 1/3 1/4 -1/3 0")], [-1, 0, 1, 1, 1])
        self.assertEqual(compare(q(-2), q(-1)), -1)

    def test_rows(self):
        self.same(sum_of(()), ZERO)
        self.same(sum_of([]), ZERO)
        self.same(sum_of(qs("1/2 1/3 1/6")), ONE)
        self.same(sum_of(list(qs("1/2 -1/2"))), ZERO)
        for row in (qs("1/2"), qs("3 -1/2 1/3 -1/2 7/2 0"), list(qs("0 0")), list(qs("-1 -3/2 -2"))):
            self.same(least_of(row), q(min(frac(entry) for entry in row)))
            self.same(greatest_of(row), q(max(frac(entry) for entry in row)))


class Texts(Case):
    def test_texts_and_back(self):
        for text in ("0", "3", "-7/2", "7/2", "-1", "1/300", "10", "100/101", "-12345678901234567890/7"):
            self.same(ratio_of(text), q(text))
            self.assertEqual(ratio_text(q(text)), text)

    def test_spoilt_texts(self):
        for text in ("4/2", "-0", "+1", "01", "3/1", "1/-2", "", " 1", "1 ", "1/", "/1", "1/0", "0/1", "0/2", "-", "--1",
                     "-/2", "1//2", "1/2/3", "1/2/", "1/02", "-01", "1/+2", "1 /2", "1_0", "1.0", "1e3", "0x1", "-0/3",
                     "5/5", "1\n", "\n1", "half", "00", "2-", "\u0661", "\u00b2", "1/\u0662", "\uff11", "-\u0663"):
            self.fails(BadRatio, {"what": "text"}, ratio_of, text)

    def test_no_texts(self):
        for thing in (None, 1, True, 1.5, b"1", ["1"], ("1",), (1, 1), {"1": 1}, object()):
            self.fails(BadRatio, {"what": "text"}, ratio_of, thing)

    def test_three_hundred_figures(self):
        most = "9" * 300
        for text in (most, "-" + most, "1/" + most, "-1/" + most, most + "/" + "1" + "0" * 299):
            self.assertEqual(ratio_text(ratio_of(text)), text)
        more = "1" + "0" * 300
        for text in (more, "-" + more, "1/" + more, "-1/" + more, more + "/3", more + "/" + more, "9" * 5000):
            self.fails(BadRatio, {"what": "text"}, ratio_of, text)

    def test_long_texts_are_written(self):
        self.assertEqual(ratio_text((10 ** 5000 + 3, 1)), "1" + "0" * 4999 + "3")
        self.assertEqual(ratio_text((-10 ** 6000, 3 ** 2)), "-1" + "0" * 6000 + "/9")
        for number in (10 ** 64 - 1, 10 ** 64, 10 ** 64 + 1, 10 ** 128, 12 * 10 ** 128 + 5):
            self.assertEqual(ratio_text((number, 1)), str(number))
            self.assertEqual(ratio_text((-1, number)), "-1/" + str(number))


if __name__ == "__main__":
    unittest.main()
