"""lean.py [6.5]."""
import itertools
import unittest

from stillarms.errors import BadTask
from stillarms.lean import all_lean
from stillarms.ratios import ONE, ZERO
from stillarms.tasks import Solution, solve_task
from tests.cases import Case, Draws, columns_of, frac, fracs, mixed, q, qs, rank

UNIT = columns_of("1 0", "0 1")


def lots_of(many):
    return [lot for size in range(many + 1) for lot in itertools.combinations(range(many), size)]


class Lean(Case):
    def test_by_hand(self):
        columns = columns_of("1 0", "0 1", "1 1", "2 2", "-1 0", "1 2")
        self.same(list(all_lean(columns, qs("1 1"))), [((2,), qs("1")), ((3,), qs("1/2")), ((0, 1), qs("1 1")),
                                                        ((0, 5), qs("1/2 1/2"))])
        self.same(list(all_lean(columns, qs("1 2"))), [((5,), qs("1")), ((0, 1), qs("1 2")), ((1, 2), qs("1 1")),
                                                        ((1, 3), qs("1 1/2")), ((2, 4), qs("2 1")),
                                                        ((3, 4), qs("1 1"))])
        self.same(list(all_lean(columns, qs("-1 0"))), [((4,), qs("1"))])

    def test_order(self):
        columns = columns_of("1 0 0", "0 1 1", "0 1 0", "0 0 1", "1 1 0", "2 2 2")
        told = list(all_lean(columns, qs("1 1 1")))
        self.same(told, [((5,), qs("1/2")), ((0, 1), qs("1 1")), ((3, 4), qs("1 1")), ((0, 2, 3), qs("1 1 1"))])
        self.assertEqual([lot for lot, _ in told], sorted([lot for lot, _ in told], key=lambda lot: (len(lot), lot)))

    def test_same_columns(self):
        self.same(list(all_lean(columns_of("2", "2", "0", "-2"), qs("1"))), [((0,), qs("1/2")), ((1,), qs("1/2"))])

    def test_target_of_zeros(self):
        for columns in ((), UNIT, columns_of("0 0", "1 0", "-1 0")):
            self.same(list(all_lean(columns, qs("0 0"))), [((), ())])
            self.same(list(all_lean(list(columns), list(qs("0 0")))), [((), ())])

    def test_nothing_solves_it(self):
        for columns in ((), UNIT, columns_of("0 0"), columns_of("-1 1", "1 1")):
            self.same(list(all_lean(columns, qs("1 -1"))), [])

    def test_drawn(self):
        draws = Draws("lean")
        found = 0
        for _ in range(200):
            height, many = draws.random.randint(1, 3), draws.random.randint(0, 6)
            columns = [tuple(draws.ratio(-2, 2) for _ in range(height)) for _ in range(many)]
            target = tuple(draws.ratio(-2, 2) for _ in range(height))
            told = list(all_lean(columns, target))
            lots = [lot for lot in lots_of(many)
                    if type(solve_task([columns[index] for index in lot], target)) is Solution]
            least = [lot for lot in lots if not any(set(part) < set(lot) for part in lots)]
            self.same([lot for lot, _ in told], least)
            for lot, amounts in told:
                found += 1
                chosen = [columns[index] for index in lot]
                self.assertEqual(rank(chosen), len(lot))
                self.assertTrue(all(frac(amount) > 0 for amount in amounts))
                self.assertEqual(mixed(chosen, amounts, height), fracs(target))
        self.assertGreater(found, 100)

    def test_ten_columns_and_eleven(self):
        columns = [(q(number), ONE) for number in range(10)]
        told = list(all_lean(columns, qs("9/2 1")))
        self.assertEqual([lot for lot, _ in told], [(low, high) for low in range(5) for high in range(5, 10)])
        self.same(told[0][1], qs("1/10 9/10"))
        for many in (11, 12, 80):
            self.fails(BadTask, {"index": 0, "what": "many"}, lambda: list(all_lean([(ONE, ONE)] * many, (ONE, ONE))))

    def test_errors(self):
        for index, what, columns, target in (
                (0, "target", None, None), (0, "target", ((ONE,),) * 11, ()), (0, "many", None, (ONE,)),
                (0, "many", ((ONE,),) * 81, (ONE,)), (0, "many", ((ONE,),) * 80 + (None,), (ONE,)),
                (1, "column", ((ONE,), None), (ONE,)), (10, "column", ((ONE,),) * 10 + ((1,),), (ONE,)),
                (0, "column", ((ZERO, ZERO),), (ONE,)), (0, "target", (), (ONE,) * 41)):
            self.fails(BadTask, {"index": index, "what": what}, lambda: list(all_lean(columns, target)))


if __name__ == "__main__":
    unittest.main()
