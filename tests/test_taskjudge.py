"""taskjudge.py [6.4]; its BadTask is tested with tasks.py."""
import unittest

from stillarms.ratios import ONE, ZERO
from stillarms.taskjudge import against_fault, endless_fault, least_fault, solution_fault
from stillarms.tasks import Against, Endless, Least, Solution
from tests.cases import Case, columns_of, q, qs

COLUMNS = columns_of("1 0", "0 1", "1 1")
TARGET = qs("2 3")


class Solutions(Case):
    def fault(self, amounts):
        return solution_fault(COLUMNS, TARGET, Solution(amounts))

    def test_right(self):
        # Independence is not judged.
        for amounts in ("2 3 0", "0 1 2", "1 2 1", "1/2 3/2 3/2"):
            self.assertIsNone(self.fault(qs(amounts)))
            self.assertIsNone(self.fault(list(qs(amounts))))
        self.assertIsNone(solution_fault([list(column) for column in COLUMNS], list(TARGET), Solution(qs("2 3 0"))))
        self.assertIsNone(solution_fault((), qs("0 0"), Solution(())))
        self.assertIsNone(solution_fault(columns_of("1", "-1"), qs("0"), Solution([q(7), q(7)])))

    def test_many(self):
        for amounts in ("", "2 3", "2 3 0 0", "-1 -1", "-1 -1 -1 -1"):
            self.assertEqual(self.fault(qs(amounts)), "many")
        self.assertEqual(solution_fault((), qs("0"), Solution([ZERO])), "many")

    def test_below(self):
        for amounts in ("3 4 -1", "-1/9 0 1", "0 0 -5"):
            self.assertEqual(self.fault(qs(amounts)), "below")

    def test_sum(self):
        for amounts in ("0 0 0", "2 3 1/9", "2 2 0", "1 3 0", "3 2 0"):
            self.assertEqual(self.fault(qs(amounts)), "sum")
        self.assertEqual(solution_fault((), qs("0 1"), Solution(())), "sum")


class Againsts(Case):
    def fault(self, numbers, target="2 -3"):
        return against_fault(COLUMNS, qs(target), Against(numbers))

    def test_right(self):
        for numbers in ("0 1", "1 1", "1/2 1/2", "3 9/4"):
            self.assertIsNone(self.fault(qs(numbers)))
            self.assertIsNone(self.fault(list(qs(numbers))))
        self.assertIsNone(against_fault((), qs("0 2"), Against(qs("5 -1/7"))))

    def test_many(self):
        for numbers in ("", "1", "-1", "0 1 0", "-1 -1 -1"):
            self.assertEqual(self.fault(qs(numbers)), "many")

    def test_column(self):
        # Each column alone, and with a target that is wrong as well.
        for numbers, columns in (("-1 1", "1 0"), ("1 -1", "0 1"), ("1 -2", "1 1")):
            self.assertEqual(self.fault(qs(numbers)), "column")
            self.assertEqual(against_fault(columns_of(columns), qs("2 3"), Against(qs(numbers))), "column")
        self.assertEqual(self.fault(qs("-1/9 1"), "1 1"), "column")

    def test_target(self):
        for numbers in ("0 0", "3 2", "1 0", "3 1"):
            self.assertEqual(self.fault(qs(numbers)), "target")
        self.assertEqual(against_fault((), qs("0 2"), Against(qs("5 1/7"))), "target")


class Leasts(Case):
    """With costs 1, 2, 2 the least is 0, 1, 2 at 6, which the numbers 0, 2 show."""

    def fault(self, value, amounts, numbers, costs="1 2 2"):
        return least_fault(COLUMNS, TARGET, qs(costs), Least(q(value), qs(amounts), qs(numbers)))

    def test_right(self):
        self.assertIsNone(self.fault(6, "0 1 2", "0 2"))
        self.assertIsNone(self.fault(5, "2 3 0", "1 1", "1 1 2"))
        self.assertIsNone(self.fault(5, "1 2 1", "1 1", "1 1 2"))
        self.assertIsNone(self.fault(-5, "2 3 0", "-1 -1", "-1 -1 -1"))
        self.assertIsNone(least_fault(COLUMNS, list(TARGET), list(qs("1 2 2")), Least(q(6), list(qs("0 1 2")), list(qs("0 2")))))
        self.assertIsNone(least_fault((), qs("0"), (), Least(ZERO, (), qs("7"))))

    def test_words_of_solutions(self):
        self.assertEqual(self.fault(99, "0 -1", ""), "many")
        self.assertEqual(self.fault(99, "3 4 -1", ""), "below")
        self.assertEqual(self.fault(99, "0 1 1", ""), "sum")

    def test_value(self):
        self.assertEqual(self.fault(7, "0 1 2", ""), "value")
        self.assertEqual(self.fault(6, "2 3 0", ""), "value")
        self.assertEqual(self.fault(0, "0 1 2", "9 9"), "value")

    def test_numbers(self):
        for numbers in ("", "0", "9", "0 2 0", "9 9 9"):
            self.assertEqual(self.fault(6, "0 1 2", numbers), "numbers")

    def test_column(self):
        self.assertEqual(self.fault(6, "0 1 2", "3/2 1"), "column")
        self.assertEqual(self.fault(6, "0 1 2", "-3/2 3"), "column")
        self.assertEqual(self.fault(6, "0 1 2", "1 11/9"), "column")
        self.assertEqual(self.fault(6, "0 1 2", "9 9"), "column")
        # Not least, though the numbers make the value.
        self.assertEqual(self.fault(8, "2 3 0", "1 2"), "column")

    def test_target(self):
        self.assertEqual(self.fault(6, "0 1 2", "0 0"), "target")
        self.assertEqual(self.fault(6, "0 1 2", "1 1"), "target")
        self.assertEqual(self.fault(8, "2 3 0", "0 2"), "target")


class Endlesses(Case):
    """Columns that can be taken round: the first and the second make 0."""

    def fault(self, amounts, way, costs="-2 1 0"):
        return endless_fault(columns_of("1 0", "-1 0", "0 1"), qs("2 3"), qs(costs), Endless(qs(amounts), qs(way)))

    def test_right(self):
        self.assertIsNone(self.fault("2 0 3", "1 1 0"))
        self.assertIsNone(self.fault("7 5 3", "1/9 1/9 0"))
        self.assertIsNone(self.fault("2 0 3", "1 1 0", "0 -1/9 5"))
        self.assertIsNone(endless_fault(columns_of("0"), [ZERO], [q(-1)], Endless([ZERO], [ONE])))

    def test_words_of_solutions(self):
        self.assertEqual(self.fault("2 0", ""), "many")
        self.assertEqual(self.fault("1 -1 3", ""), "below")
        self.assertEqual(self.fault("2 0 2", ""), "sum")

    def test_way(self):
        for way in ("", "1 1", "1 1 0 0", "-1 -1 0", "0 0 -1", "-1/9 1 0"):
            self.assertEqual(self.fault("2 0 3", way), "way")
            self.assertEqual(self.fault("2 0 3", way, "2 1 0"), "way")

    def test_turn(self):
        for way in ("1 0 0", "1 1 1", "2 1 0", "0 0 1/9"):
            self.assertEqual(self.fault("2 0 3", way), "turn")
            self.assertEqual(self.fault("2 0 3", way, "2 1 0"), "turn")

    def test_cost(self):
        self.assertEqual(self.fault("2 0 3", "0 0 0"), "cost")
        self.assertEqual(self.fault("2 0 3", "1 1 0", "-1 1 -5"), "cost")
        self.assertEqual(self.fault("2 0 3", "1 1 0", "-1 2 -5"), "cost")


if __name__ == "__main__":
    unittest.main()
