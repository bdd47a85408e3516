"""squares.py [8.1] to [8.3]."""
import unittest
from fractions import Fraction

from stillarms.errors import BadGrid
from stillarms.ratios import ONE, ZERO
from stillarms.squares import Even, Falls, Firm, check_grid, grid_value, split_fault, split_grid
from tests.cases import NO_RATIOS, ODD_THINGS, Case, Draws, columns_of, frac, fracs, q, qs, rank


def value_at(grid, turns):
    """The value of a grid, as a Fraction."""
    return sum((frac(number) * frac(one) * frac(other) for row, one in zip(grid, turns) for number, other in zip(row, turns)), Fraction(0))


BAD_GRIDS = tuple(("many", thing) for thing in ODD_THINGS + (5, "12", range(1), (), [], ((ONE,) * 6,) * 6, (None,) * 6)) + (
    ("row", (None,)), ("row", (ONE,)), ("row", (qs("1 2"),)), ("row", (qs("1 2"), qs("2"))), ("row", ((), ())), ("row", ({0: ONE},)),
    ("row", (qs("1"), qs("2"))), ("row", ("1",)), ("row", ((None, 1), qs("1"))), ("row", columns_of("1 2", "3 1 1")),
    ("number", ((1,),)), ("number", ((None, 5), qs("1 1"))), ("number", (qs("1 2"), (q(3), (2, 2)))), ("number", (qs("1 2"), (q(2), (True, 1)))),
    ("number", (qs("1 2"), (q(9), 1))),
    ("even", columns_of("1 2", "3 1")), ("even", columns_of("1 2 3", "2 1 4", "3 5 1")), ("even", columns_of("0 0 0", "0 0 0", "1 0 0")))


class Grids(Case):
    def test_right(self):
        for many in range(1, 6):
            grid = tuple(tuple(q(abs(one - other)) for one in range(many)) for other in range(many))
            self.same(check_grid(grid), grid)
            self.same(check_grid([list(row) for row in grid]), grid)

    def test_wrong(self):
        for what, grid in BAD_GRIDS:
            self.fails(BadGrid, {"what": what}, check_grid, grid)
            self.fails(BadGrid, {"what": what}, split_grid, grid)
            self.fails(BadGrid, {"what": what}, split_fault, grid, None)
        for thing in NO_RATIOS:
            self.fails(BadGrid, {"what": "number"}, check_grid, ((thing,),))
            self.fails(BadGrid, {"what": "number"}, check_grid, (qs("1 5"), (q(6), thing)))

    def test_not_kept(self):
        grid = [[ONE]]
        told = check_grid(grid)
        grid[0][0] = ZERO
        self.same(told, ((ONE,),))

    def test_value(self):
        grid = columns_of("1 2", "2 -3")
        for turns, value in (("1 0", "1"), ("0 1", "-3"), ("1 1", "2"), ("1 -1", "-6"), ("1/2 2", "-31/4"), ("0 0", "0")):
            self.same(grid_value(grid, qs(turns)), q(value))
            self.same(grid_value([list(row) for row in grid], list(qs(turns))), q(value))
        draws = Draws("grid values")
        for _ in range(30):
            grid = drawn_grid(draws)
            turns = [draws.ratio() for _ in grid]
            self.assertEqual(frac(grid_value(grid, turns)), value_at(grid, turns))


def drawn_grid(draws, many=None):
    many = many or draws.random.randint(1, 5)
    entries = {(one, other): draws.ratio(-3, 3) for one in range(many) for other in range(one + 1)}
    return tuple(tuple(entries[max(one, other), min(one, other)] for other in range(many)) for one in range(many))


def grid_of(squares, many):
    """The grid whose value is the sum of these squares."""
    return tuple(tuple(q(sum(frac(amount) * frac(row[one]) * frac(row[other]) for amount, row in squares)) for other in range(many))
                 for one in range(many))


def drawn_squares(draws, many, count):
    return tuple((draws.positive(), tuple(draws.ratio(-2, 2) for _ in range(many))) for _ in range(count))


class Splits(Case):
    def judged(self, grid):
        """The class of what is told, it being right."""
        told = split_grid(grid)
        many = len(grid)
        if type(told) in (Firm, Even):
            self.assertIs(type(told.squares), tuple)
            for amount, row in told.squares:
                self.assertGreater(frac(amount), 0)
                self.assertIs(type(row), tuple)
                self.assertEqual(len(row), many)
                self.assertTrue(any(number != ZERO for number in row))
            self.same(grid_of(told.squares, many), tuple(tuple(row) for row in grid))
        if type(told) is Firm:
            self.assertEqual(len(told.squares), many)
            self.assertEqual(rank(grid), many)
            return Firm
        if type(told) is Even:
            self.assertLess(len(told.squares), many)
        self.assertIs(type(told.turns), tuple)
        self.assertEqual(len(told.turns), many)
        if type(told) is Even:
            self.assertTrue(any(number != ZERO for number in told.turns))
            self.assertEqual(value_at(grid, told.turns), 0)
            return Even
        self.assertIs(type(told), Falls)
        self.assertLess(value_at(grid, told.turns), 0)
        return Falls

    def test_by_hand(self):
        for found, rows in ((Firm, "1"), (Even, "0"), (Falls, "-1"), (Firm, "2 1|1 2"), (Even, "1 1|1 1"), (Falls, "1 2|2 1"),
                            (Even, "0 0|0 0"), (Falls, "0 1|1 0"), (Falls, "0 -1|-1 0"), (Falls, "0 1|1 9"), (Falls, "9 1|1 0"),
                            (Even, "0 0|0 3"), (Even, "3 0|0 0"), (Falls, "3 0|0 -1"), (Firm, "1/9 0|0 1/7"),
                            (Even, "2 -1 -1|-1 2 -1|-1 -1 2"), (Falls, "1 1 0|1 1 1|0 1 5"), (Falls, "-1 5 5|5 1 1|5 1 1"),
                            (Falls, "0 0 0|0 0 -1|0 -1 0"), (Falls, "0 0 2|0 -1 0|2 0 -9"), (Even, "0 0 0|0 0 0|0 0 0"),
                            (Even, "1 0 1|0 0 0|1 0 1"), (Even, "0 0 0 0|0 1 0 1|0 0 0 0|0 1 0 2"), (Falls, "-1 0|0 -1"),
                            (Falls, "-1 1|1 -1"), (Falls, "-1 -1|-1 -1")):
            grid = columns_of(*rows.split("|"))
            self.assertIs(self.judged(grid), found, rows)
            self.assertIs(self.judged([list(row) for row in grid]), found, rows)

    def test_told_entirely(self):
        self.same(split_grid(columns_of("4")).squares, ((q(4), (ONE,)),))
        self.same(split_grid(columns_of("0")).squares, ())

    def test_drawn(self):
        draws = Draws("grids")
        count = {Firm: 0, Even: 0, Falls: 0}
        for _ in range(150):
            count[self.judged(drawn_grid(draws))] += 1
        for _ in range(150):
            many = draws.random.randint(1, 5)
            squares = drawn_squares(draws, many, draws.random.randint(0, 6))
            found = self.judged(grid_of(squares, many))
            count[found] += 1
            self.assertIs(found, Firm if rank([row for _, row in squares]) == many else Even)
        for _ in range(60):
            # Squares less a little of a letter's own square: it falls where it was even.
            many = draws.random.randint(2, 5)
            squares = drawn_squares(draws, many, many - 1)
            grid = grid_of(squares, many)
            at = draws.random.randrange(many)
            grid = tuple(tuple(q(frac(number) - Fraction(1, 1000)) if one == other == at else number for other, number in enumerate(row))
                         for one, row in enumerate(grid))
            self.judged(grid)
        self.assertTrue(all(many > 40 for many in count.values()), count)

    def test_big_numbers(self):
        large = (10 ** 299 + 1, 10 ** 298 + 3)
        self.assertIs(self.judged(((large, ONE), (ONE, large))), Firm)
        self.assertIs(self.judged(((large, large), (large, large))), Even)


FIRM = columns_of("2 1", "1 2")
EVEN = columns_of("1 1", "1 1")
FALLS = columns_of("1 2", "2 1")


class Judges(Case):
    def test_right(self):
        for grid in (FIRM, EVEN, FALLS):
            self.assertIsNone(split_fault(grid, split_grid(grid)))
        self.assertIsNone(split_fault(FIRM, Firm(((q("1/2"), qs("1 -1")), (q("3/2"), qs("1 1"))))))
        self.assertIsNone(split_fault([list(row) for row in FIRM], Firm([[q("1/2"), list(qs("1 -1"))], [q("3/2"), list(qs("1 1"))]])))
        self.assertIsNone(split_fault(EVEN, Even(((q("1/4"), qs("-2 -2")),), qs("-5 5"))))
        self.assertIsNone(split_fault(columns_of("0 0", "0 0"), Even((), qs("0 1"))))
        self.assertIsNone(split_fault(FALLS, Falls(list(qs("3 -4")))))
        # More squares than needed are let as long as they are fewer than the rows.
        grid = columns_of("2 2 0", "2 2 0", "0 0 0")
        self.assertIsNone(split_fault(grid, Even(((ONE, qs("1 1 0")),) * 2, qs("0 0 1"))))
        self.assertEqual(split_fault(grid, Even(((q("2/3"), qs("1 1 0")),) * 3, qs("0 0 1"))), "squares")
        # A row of zeros is no square, though it adds nothing.
        self.assertEqual(split_fault(grid, Even(((q(2), qs("1 1 0")), (ONE, qs("0 0 0"))), qs("0 0 1"))), "squares")

    def test_class(self):
        told = {grid: split_grid(grid) for grid in (FIRM, EVEN, FALLS)}
        for grid in told:
            for other in told:
                self.assertEqual(split_fault(grid, told[other]), None if grid == other else "class")
            for thing in ODD_THINGS:
                self.assertEqual(split_fault(grid, thing), "class")

    def test_squares(self):
        half, more = (q("1/2"), qs("1 -1")), (q("3/2"), qs("1 1"))
        for squares in ODD_THINGS + (5, (), (half,), (half, half), (half, more, half), (half, (q("3/2"), qs("1 2"))), (half, (ONE, qs("1 1"))),
                                     (half, more[:1]), (half, more + (1,)), (half, None), (half, (q("3/2"), qs("1 1 0"))), (half, (q("3/2"), (1, 1))),
                                     (half, ((3, 2, 1), qs("1 1"))), (half, (1.5, qs("1 1"))), (half, more, (ONE, qs("0 0"))),
                                     (half, more, (ZERO, qs("1 1"))), (half, (q(3), qs("1 1")), (q("-3/2"), qs("1 1"))),
                                     (half, (q("3/4"), qs("1 1")), (q("3/4"), qs("1 1")))):
            self.assertEqual(split_fault(FIRM, Firm(squares)), "squares")
        one = (ONE, qs("1 1"))
        for squares in ODD_THINGS + (5, (), (one, one), ((q(2), qs("1 1")),), (one, (ZERO, qs("0 1"))), ((ONE, qs("1 -1")),),
                                     ((q("1/2"), qs("1 1")),) * 2, ((ONE, qs("0 0")),), ((True, qs("1 1")),)):
            self.assertEqual(split_fault(EVEN, Even(squares, qs("1 -1"))), "squares")
            self.assertEqual(split_fault(EVEN, Even(squares, None)), "squares")

    def test_turns(self):
        for turns in ODD_THINGS + (5, (), qs("1"), qs("0 0"), qs("1 1"), qs("1 -2"), qs("1 -1 0"), (1, -1), (ONE, None)):
            self.assertEqual(split_fault(EVEN, Even(((ONE, qs("1 1")),), turns)), "turns")
        for turns in ODD_THINGS + (5, (), qs("1"), qs("0 0"), qs("1 1"), qs("1 0"), qs("1 -1 0"), (1, -1), (ONE, None)):
            self.assertEqual(split_fault(FALLS, Falls(turns)), "turns")
        # At these turns the value is 0, which is not below.
        self.assertEqual(split_fault(columns_of("1 0", "0 -1"), Falls(qs("1 1"))), "turns")
        self.assertIsNone(split_fault(columns_of("1 0", "0 -1"), Falls(qs("1 2"))))

    def test_drawn(self):
        draws = Draws("judged grids")
        for _ in range(60):
            many = draws.random.randint(2, 5)
            grid = grid_of(drawn_squares(draws, many, many - 1), many)
            for split in (split_grid(grid), split_grid(drawn_grid(draws, many))):
                fault = split_fault(grid, split)
                self.assertTrue(fault is None or type(split) is not Even or fault in ("squares", "turns"))
            self.assertIsNone(split_fault(grid, split_grid(grid)))
            self.assertIsNone(split_fault(drawn := drawn_grid(draws), split_grid(drawn)))

    def test_equality(self):
        squares = ((ONE, qs("1")),)
        for made, like, others in (
                (Firm(squares), Firm(((ONE, qs("1")),)), (Firm(()), Even(squares, None), Falls(squares), squares)),
                (Even((), qs("1")), Even((), qs("1")), (Even(squares, qs("1")), Even((), qs("2")), Firm(()), Falls(qs("1")))),
                (Falls(qs("1")), Falls(qs("1")), (Falls(qs("2")), Firm(qs("1")), None))):
            self.assertTrue(made == like)
            self.unlike_all(made, others)


if __name__ == "__main__":
    unittest.main()
