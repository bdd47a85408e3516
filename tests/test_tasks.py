"""tasks.py [6.1] to [6.3]."""
import itertools
import unittest
from fractions import Fraction

from stillarms.errors import BadTask
from stillarms.ratios import ONE, ZERO
from stillarms.taskjudge import against_fault, endless_fault, least_fault, solution_fault
from stillarms.tasks import Against, Endless, Least, Solution, least_cost, least_sum, solve_task
from tests.cases import NO_RATIOS, ODD_THINGS, Case, Draws, columns_of, dot, frac, fracs, mixed, q, qs, rank

UNIT = columns_of("1 0", "0 1")


def is_ratio_row(row):
    return type(row) is tuple and all(type(entry) is tuple and q(frac(entry)) == entry for entry in row)


class TaskCase(Case):
    def solves(self, columns, target, amounts):
        self.assertTrue(is_ratio_row(amounts))
        self.assertEqual(len(amounts), len(columns))
        self.assertTrue(all(amount >= 0 for amount in fracs(amounts)))
        self.assertEqual(mixed(columns, amounts, len(target)), fracs(target))

    def solved(self, columns, target, told):
        """A solution whose columns with amounts above 0 are independent."""
        self.assertIs(type(told), Solution)
        self.solves(columns, target, told.amounts)
        used = [column for column, amount in zip(columns, told.amounts) if amount != ZERO]
        self.assertEqual(rank(used), len(used))
        self.assertIsNone(solution_fault(columns, target, told))

    def shown(self, columns, target, told):
        """What shows that nothing solves the task."""
        self.assertIs(type(told), Against)
        self.assertTrue(is_ratio_row(told.numbers))
        self.assertEqual(len(told.numbers), len(target))
        self.assertTrue(all(dot(told.numbers, column) >= 0 for column in columns))
        self.assertLess(dot(told.numbers, target), 0)
        self.assertIsNone(against_fault(columns, target, told))

    def least(self, columns, target, costs, told):
        self.assertIs(type(told), Least)
        self.solves(columns, target, told.amounts)
        self.assertTrue(is_ratio_row((told.value,)) and is_ratio_row(told.numbers))
        self.assertEqual(dot(told.amounts, costs), frac(told.value))
        for column, cost in zip(columns, costs):
            self.assertLessEqual(dot(told.numbers, column), frac(cost))
        self.assertEqual(dot(told.numbers, target), frac(told.value))
        self.assertIsNone(least_fault(columns, target, costs, told))

    def endless(self, columns, target, costs, told):
        self.assertIs(type(told), Endless)
        self.solves(columns, target, told.amounts)
        self.solves(columns, (ZERO,) * len(target), told.way)
        self.assertLess(dot(told.way, costs), 0)
        self.assertIsNone(endless_fault(columns, target, costs, told))


def can_be_solved(columns, target):
    """Whether some independent columns make the target with amounts from 0 on, by all lots of columns."""
    return solved_amounts(columns, target) != []


def solved_amounts(columns, target):
    """All amounts that solve the task with independent columns alone."""
    found = []
    for size in range(min(len(columns), len(target)) + 1):
        for lot in itertools.combinations(range(len(columns)), size):
            chosen = [columns[index] for index in lot]
            if rank(chosen) == size and rank(chosen + [target]) == size:
                row = only_amounts(chosen, target)
                if all(amount >= 0 for amount in row):
                    found.append([row[lot.index(index)] if index in lot else 0 for index in range(len(columns))])
    return found


def only_amounts(columns, target):
    """The only amounts with which independent columns make the target, by elimination."""
    rows = [[frac(column[index]) for column in columns] + [frac(right)] for index, right in enumerate(target)]
    done = []
    for at in range(len(columns)):
        row = next(row for row in rows if row[at] != 0)
        rows.remove(row)
        row = [entry / row[at] for entry in row]
        rows, done = ([[left - other[at] * right for left, right in zip(other, row)] for other in part]
                      for part in (rows, done))
        done.append(row)
    return [row[-1] for row in done]


class Solving(TaskCase):
    def test_by_hand(self):
        self.same(solve_task(UNIT, qs("2 3/7")).amounts, qs("2 3/7"))
        self.same(solve_task([[q(2)], [q(-3)]], [q(-1)]).amounts, qs("0 1/3"))
        self.same(vars(solve_task(columns_of("1 1 0", "0 1 1"), qs("1 3 2"))), {"amounts": qs("1 2")})
        for columns, target in ((UNIT, "-1 2"), (UNIT, "1 -1/9"), (columns_of("1 1"), "1 2"), (columns_of("1 2", "2 4"), "1 1"),
                                (columns_of("1 0", "-1 0"), "0 1")):
            self.shown(columns, qs(target), solve_task(columns, qs(target)))

    def test_without_columns(self):
        self.same(solve_task((), (ZERO,)).amounts, ())
        self.same(solve_task([], [ZERO, ZERO]).amounts, ())
        for target in ("1", "-1", "0 0 1/9", "0 -1/9 3"):
            self.shown((), qs(target), solve_task((), qs(target)))
            self.shown([], list(qs(target)), solve_task([], list(qs(target))))

    def test_columns_of_zeros(self):
        columns = columns_of("0 0", "1 1", "0 0")
        self.same(solve_task(columns, qs("3 3")).amounts, qs("0 3 0"))
        self.same(solve_task(columns, qs("0 0")).amounts, qs("0 0 0"))
        self.shown(columns, qs("1 0"), solve_task(columns, qs("1 0")))
        self.shown(columns[:1], qs("0 -2"), solve_task(columns[:1], qs("0 -2")))

    def test_target_of_zeros(self):
        # Only zeros have independent columns: any others would be multiples that make 0.
        for columns in (UNIT, columns_of("1 0", "-1 0"), columns_of("1 2", "-2 -4", "0 0"), columns_of("-1 3", "1 -3", "2 2")):
            self.same(solve_task(columns, qs("0 0")).amounts, (ZERO,) * len(columns))

    def test_dependent_columns(self):
        for columns, target in ((columns_of("1 2", "1 2", "2 4"), "3 6"), (columns_of("1 0", "0 1", "1 1", "1 2"), "3 4"),
                                (columns_of("1", "1/2", "1/3"), "5/7"), (columns_of("1 1", "2 2", "1 -1"), "5 1"),
                                (columns_of("0 1 1", "1 0 1", "1 1 2", "1 -1 0"), "2 3 5")):
            self.solved(columns, qs(target), solve_task(columns, qs(target)))

    def test_dependent_rows(self):
        columns = columns_of("1 2 -1", "3 6 -3")
        self.solved(columns, qs("4 8 -4"), solve_task(columns, qs("4 8 -4")))
        for target in ("4 8 4", "4 9 -4", "-4 -8 4"):
            self.shown(columns, qs(target), solve_task(columns, qs(target)))

    def test_drawn(self):
        draws = Draws("tasks")
        solved = 0
        for _ in range(300):
            height, many = draws.random.randint(1, 4), draws.random.randint(0, 5)
            columns = [tuple(draws.ratio(-2, 2) for _ in range(height)) for _ in range(many)]
            target = tuple(draws.ratio(-2, 2) for _ in range(height))
            if draws.random.random() < 0.4:
                amounts = [q(draws.random.randint(0, 2)) for _ in columns]
                target = tuple(q(number) for number in mixed(columns, amounts, height))
            told = solve_task(columns, target)
            if can_be_solved(columns, target):
                solved += 1
                self.solved(columns, target, told)
            else:
                self.shown(columns, target, told)
        self.assertTrue(80 < solved < 250)

    def test_long_numbers(self):
        long = (10 ** 299 + 7, 10 ** 299 + 3)
        columns = ((long, ONE), (ONE, (3, 10 ** 299 + 1)))
        target = ((1, 10 ** 300 - 1), (1, 7))
        for sign in (1, -1):
            goal = tuple((top * sign, bottom) for top, bottom in target)
            told = solve_task(columns, goal)
            (self.solved if can_be_solved(columns, goal) else self.shown)(columns, goal, told)

    def test_large_tasks(self):
        draws = Draws("large")
        columns = [[draws.ratio(-3, 3) if draws.random.random() < 0.3 else ZERO for _ in range(40)] for _ in range(80)]
        amounts = [draws.positive() if draws.random.random() < 0.3 else ZERO for _ in range(80)]
        target = [q(number) for number in mixed(columns, amounts, 40)]
        self.solved(columns, target, solve_task(columns, target))
        self.least(columns, target, [ONE] * 80, least_sum(columns, target))
        self.shown(columns[:20], target, solve_task(columns[:20], target))


class Cheapest(TaskCase):
    def test_by_hand(self):
        columns = columns_of("1 0", "0 1", "1 1")
        told = least_cost(columns, qs("2 3"), qs("1 1 1"))
        self.same(vars(told), {"value": q(3), "amounts": qs("0 1 2"), "numbers": qs("0 1")})
        told = least_cost(columns, qs("2 3"), qs("1 1 3"))
        self.same(vars(told), {"value": q(5), "amounts": qs("2 3 0"), "numbers": qs("1 1")})
        self.same(least_cost(columns_of("1", "2"), (q(3),), qs("-1 -3")).value, q("-9/2"))
        self.same(least_cost(UNIT, qs("2 3"), qs("-1/2 5")).value, q(14))

    def test_nothing_solves_it(self):
        for costs in ("1 1", "0 0", "-1 3"):
            self.shown(UNIT, qs("1 -1"), least_cost(UNIT, qs("1 -1"), qs(costs)))
        self.shown(UNIT, qs("-1 -1"), least_sum(UNIT, qs("-1 -1")))
        self.shown((), qs("1"), least_cost((), qs("1"), ()))
        # Though a way without end would be there.
        columns = columns_of("1 0", "-1 0")
        self.shown(columns, qs("1 1"), least_cost(columns, qs("1 1"), qs("-1 -1")))

    def test_endless(self):
        columns = columns_of("1 0", "-1 0", "0 1")
        told = least_cost(columns, qs("-2 3"), qs("-1 0 0"))
        self.endless(columns, qs("-2 3"), qs("-1 0 0"), told)
        told = least_cost(columns_of("0 0"), qs("0 0"), qs("-1/3"))
        self.endless(columns_of("0 0"), qs("0 0"), qs("-1/3"), told)
        self.least(columns, qs("-2 3"), qs("-1 1 -5"), least_cost(columns, qs("-2 3"), qs("-1 1 -5")))
        self.least(columns, qs("-2 3"), qs("0 0 0"), least_cost(columns, qs("-2 3"), qs("0 0 0")))

    def test_without_columns(self):
        self.same(vars(least_cost((), qs("0 0"), ()))["amounts"], ())
        self.least((), qs("0 0"), (), least_cost((), qs("0 0"), ()))
        self.least([], qs("0"), [], least_sum([], qs("0")))

    def test_zeros_and_dependent(self):
        columns = columns_of("0 0", "1 1", "2 2", "1 1")
        told = least_cost(columns, qs("6 6"), qs("1 3 5 4"))
        self.least(columns, qs("6 6"), qs("1 3 5 4"), told)
        self.same((told.value, told.amounts), (q(15), qs("0 0 3 0")))
        told = least_cost(columns, qs("0 0"), qs("0 1 1 1"))
        self.least(columns, qs("0 0"), qs("0 1 1 1"), told)
        self.same(told.value, ZERO)

    def test_least_sum(self):
        columns = columns_of("1 0", "0 1", "1/2 1/2", "3 1")
        told = least_sum(columns, qs("3 2"))
        self.least(columns, qs("3 2"), (ONE,) * 4, told)
        self.same(told.value, q(2))
        self.assertTrue(told == least_cost(columns, qs("3 2"), (ONE,) * 4))

    def test_steps_that_change_nothing(self):
        # Beale's task, and one on which the plain choice of columns goes round without end, ere it has any amounts.
        columns = columns_of("1 0 0", "0 1 0", "0 0 1", "1/4 1/2 0", "-60 -90 0", "-1/25 -1/50 1", "9 3 0")
        target, costs = qs("0 0 1"), qs("0 0 0 -3/4 150 -1/50 6")
        told = least_cost(columns, target, costs)
        self.least(columns, target, costs, told)
        self.same(told.value, q("-1/20"))
        columns = columns_of("100 0 -100", "0 50 -50", "25 25 25", "-6000 -4500 -4500", "-4 -1 7", "900 150 -1650")
        self.solved(columns, qs("0 0 1000000"), solve_task(columns, qs("0 0 1000000")))

    def test_drawn(self):
        draws = Draws("costs")
        kinds = {Against: 0, Endless: 0, Least: 0}
        for _ in range(300):
            height, many = draws.random.randint(1, 3), draws.random.randint(0, 5)
            columns = [tuple(draws.ratio(-2, 2) for _ in range(height)) for _ in range(many)]
            amounts = [q(draws.random.randint(0, 2)) for _ in columns]
            target = tuple(q(number) for number in mixed(columns, amounts, height))
            if draws.random.random() < 0.2:
                target = tuple(draws.ratio(-2, 2) for _ in range(height))
            costs = tuple(draws.ratio(-1, 4) for _ in columns)
            told = least_cost(columns, target, costs)
            kinds[type(told)] += 1
            rows = solved_amounts(columns, target)
            if rows == []:
                self.shown(columns, target, told)
            elif type(told) is Endless:
                self.endless(columns, target, costs, told)
                self.assertTrue(any(cost < 0 for cost in fracs(costs)))
            else:
                self.least(columns, target, costs, told)
                self.assertEqual(frac(told.value), min(sum((amount * cost for amount, cost in zip(row, fracs(costs))),
                                                           Fraction(0)) for row in rows))
            if rows != [] and all(cost >= 0 for cost in fracs(costs)):
                self.assertIs(type(told), Least)
            self.assertTrue(least_sum(columns, target) == least_cost(columns, target, [ONE] * many))
        self.assertTrue(all(count > 20 for count in kinds.values()), kinds)


class Errors(TaskCase):
    def all_fail(self, index, what, columns, target):
        """The error comes from all functions, ahead of wrong costs and of all words of judges."""
        told = {"index": index, "what": what}
        self.fails(BadTask, told, solve_task, columns, target)
        self.fails(BadTask, told, least_sum, columns, target)
        self.fails(BadTask, told, least_cost, columns, target, None)
        self.fails(BadTask, told, solution_fault, columns, target, Solution(()))
        self.fails(BadTask, told, against_fault, columns, target, Against(()))
        self.fails(BadTask, told, least_fault, columns, target, None, Least(ZERO, (), ()))
        self.fails(BadTask, told, endless_fault, columns, target, None, Endless((), ()))

    def test_target(self):
        for target in ODD_THINGS + ((), [], (ONE, 1), (None,), ((2, 4),), (ONE, (True, 1)), (ONE,) * 41, range(1), {ONE: 1},
                                    5, "1"):
            self.all_fail(0, "target", None, target)
            self.all_fail(0, "target", ((None,),), target)
        for thing in NO_RATIOS:
            self.all_fail(0, "target", UNIT, (ONE, thing))

    def test_many(self):
        for columns in ODD_THINGS + (5, "1", ((ONE,),) * 81, [None] * 81, range(1)):
            self.all_fail(0, "many", columns, (ONE,))

    def test_column(self):
        for index, columns in ((0, (None,)), (1, UNIT[:1] + (None,)), (0, ((ONE,),) + UNIT), (2, UNIT + ((ONE, ONE, ONE),)),
                               (1, (UNIT[0], ((2, 4), ONE), None)), (1, [list(UNIT[0]), [ONE, 1]]), (0, ((), ())),
                               (0, ({ONE: 1, ZERO: 2},)), (0, ["1"]), (2, UNIT + ("11",)), (0, [range(2)])):
            self.all_fail(index, "column", columns, qs("1 1"))
        for thing in NO_RATIOS:
            self.all_fail(1, "column", (UNIT[0], (ONE, thing)), qs("1 1"))

    def test_costs(self):
        for costs in ODD_THINGS + ((), (ONE,), (ONE, ONE, ONE), (ONE, 1), (None, ONE), ((2, 4), ONE), "11", range(2), 5):
            told = {"index": 0, "what": "costs"}
            self.fails(BadTask, told, least_cost, UNIT, qs("1 1"), costs)
            self.fails(BadTask, told, least_cost, UNIT, qs("-1 1"), costs)
            self.fails(BadTask, told, least_fault, UNIT, qs("1 1"), costs, Least(ZERO, (), ()))
            self.fails(BadTask, told, endless_fault, UNIT, qs("1 1"), costs, Endless((), ()))
        self.fails(BadTask, {"index": 0, "what": "costs"}, least_cost, (), (ZERO,), (ONE,))

    def test_limits(self):
        self.same(solve_task(((ONE,) * 40,) * 80, (ONE,) * 40).amounts.count(ONE), 1)
        self.all_fail(0, "target", ((ONE,) * 41,), (ONE,) * 41)
        self.all_fail(0, "many", ((ONE,) * 40,) * 81, (ONE,) * 40)
        self.all_fail(0, "target", ((ONE,) * 41,) * 81, (ONE,) * 41)

    def test_arguments_are_not_changed(self):
        columns, target, costs = [list(UNIT[0]), list(UNIT[1])], list(qs("2 3")), list(qs("1 2"))
        solve_task(columns, target)
        least_cost(columns, target, costs)
        self.same((columns, target, costs), ([list(UNIT[0]), list(UNIT[1])], list(qs("2 3")), list(qs("1 2"))))


class Results(Case):
    def test_equality(self):
        row = qs("1 2")
        for made, like, others in (
                (Solution(row), Solution(row), (Solution(qs("1 3")), Against(row), None, row)),
                (Against(row), Against(row), (Against(()), Solution(row), row)),
                (Least(ONE, row, row), Least(ONE, row, row), (Least(ZERO, row, row), Least(ONE, (), row), Least(ONE, row, ()))),
                (Endless(row, ()), Endless(row, ()), (Endless((), ()), Endless(row, row), None))):
            self.assertTrue(made == like)
            self.unlike_all(made, others)

    def test_kept_as_given(self):
        row = [1, 2]
        self.assertIs(Solution(row).amounts, row)
        self.assertIs(Against(row).numbers, row)
        self.same(vars(Least(1, "a", None)), {"value": 1, "amounts": "a", "numbers": None})
        self.same(vars(Endless("a", None)), {"amounts": "a", "way": None})


if __name__ == "__main__":
    unittest.main()
