"""arms.py [1.4] to [1.7]."""
import unittest

from stillarms.arms import (Arms, check_place, grown_place, is_nought, join_rows, letter_row, scale_row, take_row)
from stillarms.errors import BadArms, BadOrder, BadPlace, BadSize, NoBar
from stillarms.ratios import ONE, ZERO
from tests.cases import MAST, NO_RATIOS, ODD_THINGS, Case, Draws, lamp, place, q, qs, tree

BAR = (MAST, ZERO, 1)
NO_ROWS = ODD_THINGS + ("abc", b"abc", {0, 1}, range(3), iter(()), {0: 1, 1: 2, 2: 3})


class MakingArms(Case):
    def bad(self, index, what, bars):
        self.fails(BadArms, {"index": index, "what": what}, Arms, bars)

    def test_attributes(self):
        arms = tree()
        self.same(arms.bars, ((-1, (1, 2), 1), (0, (2, 1), 0), (1, (-1, 1), 2), (0, (3, 1), 3), (3, (1, 3), 2),
                              (2, (5, 1), 4)))
        self.same((arms.letters, len(arms)), (4, 6))
        self.same((lamp().letters, len(lamp())), (2, 2))
        self.same((Arms((BAR,)).letters, len(Arms((BAR,)))), (1, 1))

    def test_lists_and_tuples(self):
        for bars in ([[MAST, ZERO, 1]], [(MAST, ZERO, 1)], ([MAST, ZERO, 1],), ((MAST, ZERO, 1),)):
            self.same(Arms(bars).bars, ((MAST, ZERO, 1),))

    def test_a_handed_list_is_not_kept(self):
        inner = [MAST, ZERO, 1]
        bars = [inner, [0, ONE, 2]]
        arms = Arms(bars)
        inner[1] = ONE
        bars.pop()
        self.same(arms.bars, ((MAST, ZERO, 1), (0, ONE, 2)))
        self.assertEqual((arms.letters, bars), (2, [[MAST, ONE, 1]]))

    def test_many(self):
        for count in range(1, 7):
            self.assertEqual(len(Arms((BAR,) * count)), count)
        for bars in NO_ROWS + ((), [], (BAR,) * 7, [BAR] * 7, [BAR] * 50, (None,) * 7):
            self.bad(0, "many", bars)

    def test_bar(self):
        for bar in NO_ROWS + ((), (MAST, ZERO), (MAST, ZERO, 1, 1), [MAST], "abc"):
            self.bad(0, "bar", (bar,))
            self.bad(1, "bar", (BAR, bar))
            self.bad(2, "bar", [BAR, [MAST, ZERO, 1], bar, (9, 9, 9)])

    def test_host(self):
        for number in range(6):
            for host in range(MAST, number):
                Arms((BAR,) * number + ((host, ZERO, 1),))
            for host in (number, number + 1, -2, -7, True, False, None, 0.0, "mast", (0,), (0, 1)):
                self.bad(number, "host", (BAR,) * number + ((host, ZERO, 1),))

    def test_mark(self):
        for mark in qs("0 -7/3 5") + ((10 ** 299, 10 ** 300 - 1),):
            self.assertEqual(Arms((BAR, (0, mark, 1))).bars[1][1], mark)
        for mark in NO_RATIOS:
            self.bad(1, "mark", (BAR, (0, mark, 1)))

    def test_letter(self):
        bars = ((MAST, ZERO, 1), (MAST, ZERO, 2), (MAST, ZERO, 3))
        for letter in range(5):
            Arms(bars + ((0, ONE, letter),))
        for letter in (-1, 5, 6, True, False, None, 1.0, "1", (1,), (1, 1)):
            self.bad(3, "letter", bars + ((0, ONE, letter),))

    def test_gap(self):
        for letters in ((0,), (2,), (0, 0), (1, 3), (2, 3, 4), (4, 1, 2), (0, 3, 1), (1, 2, 4, 0)):
            self.bad(0, "gap", tuple((MAST, ZERO, letter) for letter in letters))
        for letters in ((1,), (0, 1), (2, 1), (4, 3, 2, 1), (0, 0, 2, 1), (1, 1, 2)):
            self.assertEqual(Arms([(MAST, ZERO, letter) for letter in letters]).letters, max(letters))

    def test_two_faults(self):
        self.bad(0, "host", ((0, 1, 9),))
        self.bad(0, "mark", ((MAST, 1, 9),))
        self.bad(0, "letter", ((MAST, ZERO, 9),))
        self.bad(0, "letter", ((MAST, ZERO, 9), None))
        self.bad(1, "mark", (BAR, (0, 0, 9), (5, ZERO, 1)))
        self.bad(2, "bar", ((MAST, ZERO, 2), (MAST, ZERO, 2), ()))
        self.bad(1, "letter", ((MAST, ZERO, 2), (MAST, ZERO, 7)))
        self.bad(0, "many", (None, 7) * 4)

    def test_equality(self):
        self.assertTrue(lamp() == lamp())
        self.assertFalse(lamp() != lamp())
        self.assertTrue(Arms([[MAST, ZERO, 1]]) == Arms((BAR,)))
        self.unlike_all(lamp(), (tree(), Arms(((MAST, ZERO, 1), (0, q(3), 2))), lamp().bars, list(lamp().bars),
                                 Arms(((MAST, ZERO, 2), (0, q(2), 1))), None, 2, True, "arms", object()))


class Places(Case):
    def test_check_place(self):
        self.same(check_place(lamp(), [1, q("1/2")]), (1, (1, 2)))
        self.same(check_place(lamp(), (MAST, q(-3))), (-1, (-3, 1)))
        handed = [0, ONE]
        kept = check_place(lamp(), handed)
        handed[0] = 1
        self.same(kept, (0, (1, 1)))

    def test_bad_places(self):
        arms = lamp()
        wrong = NO_ROWS + ((), (0,), (0, ONE, 1), (2, ONE), (-2, ONE), (True, ONE), (False, ONE), (0.0, ONE),
                           ("mast", ONE), (None, ONE), (0, 1), "ab", (0, [1, 1]))
        wrong += tuple((0, mark) for mark in NO_RATIOS)
        for thing in wrong:
            self.fails(BadPlace, {}, check_place, arms, thing)
            self.fails(BadPlace, {}, arms.row_of, thing)
            self.fails(BadPlace, {}, arms.difference_row, thing, (0, ONE))
            self.fails(BadPlace, {}, arms.difference_row, (0, ONE), thing)

    def test_row_on_the_mast(self):
        self.same(tree().row_of((MAST, q("7/2"))), qs("7/2 0 0 0 0"))
        self.same(lamp().row_of([MAST, ZERO]), qs("0 0 0"))

    def test_row_on_bars(self):
        arms = tree()
        self.same(arms.row_of((0, q(3))), qs("1/2 3 0 0 0"))
        self.same(arms.row_of([0, q(-3)]), qs("1/2 -3 0 0 0"))
        self.same(lamp().row_of((0, q(3))), qs("0 3 0"))
        self.same(lamp().row_of((1, q("-1/3"))), qs("0 2 -1/3"))

    def test_row_on_a_bar_of_letter_nought(self):
        self.same(tree().row_of((1, q(4))), qs("9/2 2 0 0 0"))
        self.same(tree().row_of((1, q("-1/2"))), qs("0 2 0 0 0"))

    def test_row_on_bars_that_hang_on_bars(self):
        arms = tree()
        self.same(arms.row_of((2, q(2))), qs("-1/2 2 2 0 0"))
        self.same(arms.row_of((4, q(2))), qs("1/2 3 2 1/3 0"))
        self.same(arms.row_of((5, q(1))), qs("-1/2 2 5 0 1"))
        # Two bars of one letter below each other add up.
        chain = Arms(((MAST, ONE, 1), (0, q(2), 1), (1, q(3), 1)))
        self.same(chain.row_of((2, q(4))), qs("1 9"))

    def test_hinge_rows(self):
        arms = tree()
        rows = [arms.hinge_row(number) for number in range(6)]
        self.same(rows, [qs("1/2 0 0 0 0"), qs("1/2 2 0 0 0"), qs("-1/2 2 0 0 0"), qs("1/2 3 0 0 0"),
                         qs("1/2 3 0 1/3 0"), qs("-1/2 2 5 0 0")])

    def test_no_bar(self):
        for thing in (-1, 2, 6, 10 ** 30, None, True, False, 0.0, "0", (0,)):
            self.fails(NoBar, {"number": thing}, lamp().hinge_row, thing)

    def test_difference_row(self):
        self.same(tree().difference_row((4, q(2)), (2, q(1))), qs("1 1 1 1/3 0"))
        self.same(tree().difference_row((2, q(1)), (4, q(2))), qs("-1 -1 -1 -1/3 0"))
        self.same(lamp().difference_row([1, ONE], [1, ONE]), qs("0 0 0"))


class Rows(Case):
    def test_row_helpers(self):
        self.same(scale_row(qs("1 -2/3 0"), q("-3/2")), qs("-3/2 1 0"))
        self.same(scale_row(list(qs("1 2")), ZERO), qs("0 0"))
        self.same(scale_row((), ONE), ())
        self.same(join_rows(qs("1 1/2"), list(qs("2 1/3"))), qs("3 5/6"))
        self.same(take_row(list(qs("1 1/2")), qs("2 1/3")), qs("-1 1/6"))

    def test_is_nought(self):
        for row in ((), qs("0"), qs("0 0 0"), list(qs("0 0"))):
            self.assertIs(is_nought(row), True)
        for row in (qs("1"), qs("0 0 1"), list(qs("-1 0")), qs("1 -1")):
            self.assertIs(is_nought(row), False)

    def test_grown_place(self):
        self.same(grown_place((1, q(3)), q("1/2")), (1, (3, 2)))
        self.same(grown_place([MAST, q(3)], q(-2)), (-1, (-6, 1)))

    def test_letter_row(self):
        self.same([letter_row(lamp(), letter) for letter in range(3)], [qs("1 0 0"), qs("0 1 0"), qs("0 0 1")])
        self.same(letter_row(tree(), 4), qs("0 0 0 0 1"))


class OtherArmsMade(Case):
    def setUp(self):
        self.arms = tree()

    def tearDown(self):
        self.assertTrue(self.arms == tree())
        self.assertEqual(self.arms.letters, 4)

    def test_with_bar(self):
        made = lamp().with_bar(1, q("1/2"), 3)
        self.same(made.bars, lamp().bars + ((1, (1, 2), 3),))
        self.same(made.letters, 3)
        self.same(lamp().with_bar(MAST, ONE, 0).letters, 2)

    def test_with_bad_bar(self):
        for told, bar in (("host", (2, ONE, 1)), ("host", (True, ONE, 1)), ("mark", (0, 1, 1)), ("letter", (0, ONE, 5))):
            self.fails(BadArms, {"index": 2, "what": told}, lamp().with_bar, *bar)
        self.fails(BadArms, {"index": 0, "what": "gap"}, lamp().with_bar, 0, ONE, 4)
        self.fails(BadArms, {"index": 0, "what": "many"}, self.arms.with_bar, 0, ONE, 1)
        self.fails(BadArms, {"index": 0, "what": "many"}, self.arms.with_bar, 77, 1, 9)

    def test_grown(self):
        self.same(self.arms.grown(q("1/2")).bars, ((-1, (1, 4), 1), (0, (1, 1), 0), (1, (-1, 2), 2), (0, (3, 2), 3),
                                                   (3, (1, 6), 2), (2, (5, 2), 4)))
        self.assertTrue(self.arms.grown(ONE) == self.arms)
        for size in NO_RATIOS + qs("0 -1 -1/2"):
            self.fails(BadSize, {}, self.arms.grown, size)

    def test_shifted(self):
        two = Arms(((MAST, ONE, 1), (0, ONE, 2), (MAST, q(3), 0), (2, ONE, 1)))
        self.same(two.shifted(q("-1/2")).bars, ((-1, (1, 2), 1), (0, (1, 1), 2), (-1, (5, 2), 0), (2, (1, 1), 1)))
        self.assertTrue(self.arms.shifted(ZERO) == self.arms)
        for step in NO_RATIOS:
            self.fails(BadSize, {}, self.arms.shifted, step)

    def test_renamed(self):
        # Letter 1 becomes 3, 2 becomes 1, 3 becomes 4, 4 becomes 2; letter 0 stays.
        for order in ((3, 1, 4, 2), [3, 1, 4, 2]):
            made = self.arms.renamed(order)
            self.same([bar[2] for bar in made.bars], [3, 0, 1, 4, 1, 2])
            self.same([bar[:2] for bar in made.bars], [bar[:2] for bar in self.arms.bars])
        self.assertTrue(self.arms.renamed((1, 2, 3, 4)) == self.arms)

    def test_bad_orders(self):
        for order in NO_ROWS + ((), (1,), (1, 2, 3), (1, 2, 3, 4, 5), (0, 1, 2, 3), (2, 3, 4, 5), (1, 1, 2, 3),
                                (1, 2, 3, 3), (True, 2, 3, 4), (1.0, 2, 3, 4), ("1", 2, 3, 4), (1, 2, 3, None),
                                (1, 2, 3, (4,)), "1234", {1: 0, 2: 0, 3: 0, 4: 0}):
            self.fails(BadOrder, {}, self.arms.renamed, order)

    def test_rows_of_other_arms(self):
        draws = Draws("other arms")
        for _ in range(40):
            arms = draws.arms()
            spot, size, step = draws.place(arms), draws.positive(), draws.ratio()
            row = arms.row_of(spot)
            self.assertEqual(arms.grown(size).row_of(grown_place(spot, size)), scale_row(row, size))
            lifted = (spot[0], join_rows((spot[1],), (step,))[0]) if spot[0] == MAST else spot
            self.assertEqual(arms.shifted(step).row_of(lifted), join_rows(row, scale_row(letter_row(arms, 0), step)))
            order = draws.random.sample(range(1, arms.letters + 1), arms.letters)
            other = arms.renamed(order).row_of(spot)
            self.assertEqual([other[name] for name in [0] + order], list(row))


if __name__ == "__main__":
    unittest.main()
