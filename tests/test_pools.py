"""pools.py [6.6], [6.7], [6.9]."""
import unittest

from stillarms.armtext import arm_text, arms_of
from stillarms.couplings import Couplings, couplings_by, couplings_of, pair_product, span_couplings, zero_couplings
from stillarms.ends import needed_springs, only_strengths, strength_ends, usable_springs
from stillarms.errors import BadPool, OtherLetters
from stillarms.fewest import fewest_springs, still_lots
from stillarms.owners import pool_owners
from stillarms.pooljudge import least_strength_fault, stills_fault, wished_fault, with_strengths
from stillarms.pools import LeastStrengths, NoStrengths, Strengths, check_pool, least_strength, stills, wished
from stillarms.poses import flat_poses
from stillarms.ratios import ONE, ZERO
from stillarms.rigs import Rig
from stillarms.rigtext import rig_of, rig_text
from stillarms.stillness import is_still, same_feel, still_or_push
from stillarms.tasks import Solution, solve_task
from stillarms.works import work_at
from tests.cases import MAST, ODD_THINGS, Case, Draws, balanced, frac, fracs, free, lamp, lamp_rig, place, q, qs, rank, rig_with

SPAN = (place(MAST, 4), place(0, 1))

# Things that are no pools for a lamp, each with the index and the word.
BAD_POOLS = tuple((0, "many", thing) for thing in ODD_THINGS + (5, "12", range(0), (SPAN,) * 9, [SPAN] * 8 + [None])) + (
    (0, "span", (None,)), (0, "span", (SPAN[0],)), (1, "span", (SPAN, SPAN[0])), (2, "span", [SPAN, SPAN, SPAN + SPAN]),
    (0, "span", ((),)), (0, "span", ((SPAN[0],),)), (1, "span", (SPAN, SPAN + SPAN[:1])), (7, "span", (SPAN,) * 7 + (None,)), (0, "span", ({1: 1, 2: 2},)),
    (0, "span", (((2, ONE), SPAN[0]), None)), (1, "span", (SPAN, (SPAN[0], (-2, ONE)))), (0, "span", (((True, ONE), SPAN[0]),)),
    (0, "span", (((0, 1), SPAN[0]),)), (0, "span", ((SPAN[0], (0, (2, 4))),)), (0, "span", ("12",)), (0, "span", [[SPAN, SPAN]]),
    (3, "span", (SPAN, SPAN, SPAN, (SPAN[0], None), None)))


class PoolCase(Case):
    def columns(self, arms, pool):
        return [span_couplings(arms, one, other) for one, other in pool]

    def stilled(self, rig, pool, row):
        """The row has ratios from 0 on that still the rig."""
        self.assertIs(type(row), tuple)
        self.assertEqual(len(row), len(pool))
        self.assertTrue(all(q(frac(entry)) == entry and frac(entry) >= 0 for entry in row))
        total = couplings_of(rig)
        for table, strength in zip(self.columns(rig.arms, pool), row):
            total = total.added(table.scaled(strength))
        self.assertTrue(total.is_zero())
        self.assertIsNone(stills_fault(rig, pool, Strengths(row)))
        if len(rig.springs) + len(pool) <= 12:
            found = with_strengths(rig, pool, row)
            self.assertTrue(is_still(found))
            self.assertIsNone(still_or_push(found))
            self.assertIsNone(same_feel(found, Rig(rig.arms)))
            self.assertEqual(len({work_at(found, pose) for pose in flat_poses(rig.arms)}), 1)

    def unstilled(self, rig, pool, told):
        self.assertIs(type(told), NoStrengths)
        self.assertIs(type(told.table), Couplings)
        for table in self.columns(rig.arms, pool):
            self.assertGreaterEqual(frac(pair_product(told.table, table)), 0)
        self.assertGreater(frac(pair_product(told.table, couplings_of(rig))), 0)
        self.assertIsNone(stills_fault(rig, pool, told))

    def independent(self, arms, pool, row):
        used = [table.numbers for table, strength in zip(self.columns(arms, pool), row) if strength != ZERO]
        self.assertEqual(rank(used), len(used))
        self.assertLessEqual(len(used), arms.letters * (arms.letters + 1) // 2)


class CheckingPools(PoolCase):
    def test_right(self):
        for pool in ((), (SPAN,), (SPAN, (place(1, "1/2"), place(1, "1/2"))), (SPAN,) * 8):
            self.same(check_pool(lamp(), pool), pool)
            self.same(check_pool(lamp(), [[list(one), list(other)] for one, other in pool]), pool)

    def test_wrong(self):
        rig, couplings = lamp_rig(), zero_couplings(3)
        for index, what, pool in BAD_POOLS:
            told = {"index": index, "what": what}
            self.fails(BadPool, told, check_pool, lamp(), pool)
            self.fails(BadPool, told, wished, lamp(), pool, couplings)
            self.fails(BadPool, told, wished_fault, lamp(), pool, couplings, Strengths(()))
            for function in (stills, least_strength, fewest_springs, pool_owners, needed_springs, usable_springs,
                             only_strengths):
                self.fails(BadPool, told, function, rig, pool)
            self.fails(BadPool, told, strength_ends, rig, pool, None)
            self.fails(BadPool, told, with_strengths, rig, pool, None)
            self.fails(BadPool, told, stills_fault, rig, pool, Strengths(()))
            self.fails(BadPool, told, stills_fault, rig, pool, NoStrengths(couplings))
            self.fails(BadPool, told, least_strength_fault, rig, pool, LeastStrengths(ZERO, (), couplings))
            self.fails(BadPool, told, lambda: list(still_lots(rig, pool)))

    def test_not_kept(self):
        pool = [[list(SPAN[0]), list(SPAN[1])]]
        told = check_pool(lamp(), pool)
        pool[0][0][0], pool[0][1] = 1, None
        self.same(told, (SPAN,))


class Stilling(PoolCase):
    def test_by_hand(self):
        self.same(vars(stills(balanced().bare(), (SPAN,))), {"row": (q("1/2"),)})
        self.same(stills(balanced().bare(), [[list(SPAN[0]), list(SPAN[1])]]).row, (q("1/2"),))
        # The spring pulls the wrong way.
        self.unstilled(balanced().bare(), ((place(MAST, -4), place(0, 1)),), stills(balanced().bare(), ((place(MAST, -4), place(0, 1)),)))
        # The rig's own spring holds a half of the weight.
        rig = balanced().with_amount(0, q(2))
        self.same(stills(rig, (SPAN,)).row, (q("1/2"),))
        # A spring that is too strong already.
        rig = balanced().with_strength(0, q(2))
        self.unstilled(rig, (SPAN,), stills(rig, (SPAN,)))

    def test_two_letters(self):
        # A weight of 1 at 1:2 couples 0 with both letters by 2; only the spans together still it.
        rig = Rig(lamp(), ((place(1, 2), ONE),))
        pool = ((place(MAST, 1), place(1, 3)), (place(MAST, 1), place(0, 1)), (place(0, 3), place(1, 1)))
        told = stills(rig, pool)
        self.same(told.row, qs("2/3 2/3 4"))
        self.stilled(rig, pool, told.row)
        for number in range(3):
            rest = pool[:number] + pool[number + 1:]
            self.unstilled(rig, rest, stills(rig, rest))

    def test_empty_pool(self):
        self.same(stills(balanced(), ()).row, ())
        self.unstilled(balanced().bare(), (), stills(balanced().bare(), ()))
        self.same(stills(Rig(lamp()), []).row, ())

    def test_rigs_that_are_still(self):
        for rig in (balanced(), balanced().bare().without_weight(0)):
            self.same(stills(rig, (SPAN, SPAN)).row, (ZERO, ZERO))
            self.same(stills(rig, (SPAN, (place(MAST, -4), place(0, 1)))).row, (ZERO, ZERO))

    def test_rows_of_zeros_and_the_same_row_twice(self):
        rig = balanced().bare()
        nothing = ((place(0, 3), place(0, 3)), (place(MAST, 5), place(MAST, 1)), (place(0, 5), place(0, 1)))
        self.same(stills(rig, nothing[:2] + (SPAN,) + nothing[2:]).row, qs("0 0 1/2 0"))
        self.unstilled(rig, nothing, stills(rig, nothing))
        told = stills(rig, (SPAN, SPAN, SPAN[::-1]))
        self.stilled(rig, (SPAN,) * 3, told.row)
        self.assertEqual(sorted(fracs(told.row)), [0, 0, frac(q("1/2"))])

    def test_eight_spans(self):
        rig = balanced().bare()
        pool = tuple((place(MAST, mark), place(0, 1)) for mark in range(1, 9))
        told = stills(rig, pool)
        self.stilled(rig, pool, told.row)
        self.independent(rig.arms, pool, told.row)

    def test_drawn(self):
        draws = Draws("pools")
        count = {Strengths: 0, NoStrengths: 0}
        for _ in range(120):
            rig, pool = draws.pooled() if draws.random.random() < 0.8 else (draws.rig(), None)
            if pool is None:
                pool = draws.pool(rig.arms, 8)
            told = stills(rig, pool)
            count[type(told)] += 1
            if type(told) is Strengths:
                self.stilled(rig, pool, told.row)
                self.independent(rig.arms, pool, told.row)
            else:
                self.unstilled(rig, pool, told)
        self.assertTrue(all(many > 25 for many in count.values()), count)

    def test_arguments_are_not_changed(self):
        pool = [[list(SPAN[0]), list(SPAN[1])]]
        stills(balanced(), pool)
        least_strength(balanced(), pool)
        self.same(pool, [[list(SPAN[0]), list(SPAN[1])]])


class Wishing(PoolCase):
    def made(self, arms, pool, couplings, told):
        self.assertIs(type(told), Strengths)
        total = zero_couplings(arms.letters)
        for table, strength in zip(self.columns(arms, pool), told.row):
            self.assertGreaterEqual(frac(strength), 0)
            total = total.added(table.scaled(strength))
        self.assertTrue(total == couplings)
        self.independent(arms, pool, told.row)
        self.assertIsNone(wished_fault(arms, pool, couplings, told))

    def unmade(self, arms, pool, couplings, told):
        self.assertIs(type(told), NoStrengths)
        for table in self.columns(arms, pool):
            self.assertGreaterEqual(frac(pair_product(told.table, table)), 0)
        self.assertLess(frac(pair_product(told.table, couplings)), 0)
        self.assertIsNone(wished_fault(arms, pool, couplings, told))

    def test_by_hand(self):
        arms = balanced().arms
        self.same(wished(arms, (SPAN,), Couplings((qs("-2"),))).row, (q("1/2"),))
        self.same(wished(arms, (SPAN,), zero_couplings(1)).row, (ZERO,))
        self.same(wished(arms, (), zero_couplings(1)).row, ())
        for pool, wish in (((SPAN,), "2"), ((), "1"), ((), "-1"), ((SPAN, (place(0, 1), place(0, 7))), "1/9")):
            self.unmade(arms, pool, Couplings((qs(wish),)), wished(arms, pool, Couplings((qs(wish),))))

    def test_other_letters(self):
        for letters in (1, 3, 4):
            self.fails(OtherLetters, {}, wished, lamp(), (SPAN,), zero_couplings(letters))
            self.fails(OtherLetters, {}, wished, lamp(), (), zero_couplings(letters))

    def test_drawn(self):
        draws = Draws("wishes")
        count = {Strengths: 0, NoStrengths: 0}
        for _ in range(80):
            arms = draws.arms()
            pool = draws.pool(arms, 8)
            numbers = zero_couplings(arms.letters)
            for table in self.columns(arms, pool):
                numbers = numbers.added(table.scaled(q(draws.random.randint(0, 2))))
            if draws.random.random() < 0.5:
                numbers = couplings_by(arms.letters, [draws.ratio() for _ in numbers.numbers])
            told = wished(arms, pool, numbers)
            count[type(told)] += 1
            (self.made if type(told) is Strengths else self.unmade)(arms, pool, numbers, told)
        self.assertTrue(all(many > 20 for many in count.values()), count)


class LeastOnes(PoolCase):
    def least(self, rig, pool, told):
        self.assertIs(type(told), LeastStrengths)
        self.stilled(rig, pool, told.row)
        self.assertEqual(sum(fracs(told.row)), frac(told.value))
        for table in self.columns(rig.arms, pool):
            self.assertLessEqual(frac(pair_product(told.table, table)), 1)
        self.assertEqual(frac(pair_product(told.table, couplings_of(rig))), -frac(told.value))
        self.assertIsNone(least_strength_fault(rig, pool, told))

    def test_by_hand(self):
        rig = balanced().bare()
        pool = ((place(MAST, 4), place(0, 1)), (place(MAST, 4), place(0, 2)), (place(MAST, 1), place(0, 1)))
        told = least_strength(rig, pool)
        self.same((told.value, told.row, told.table.numbers), (q("1/4"), qs("0 1/4 0"), qs("-1/8")))
        self.least(rig, pool, told)
        self.least(balanced(), pool, least_strength(balanced(), pool))
        self.same(least_strength(balanced(), pool).value, ZERO)
        told = least_strength(balanced(), ())
        self.same((told.value, told.row), (ZERO, ()))

    def test_nothing_stills_it(self):
        rig = balanced().bare()
        for pool in ((), ((place(MAST, -4), place(0, 1)),), ((place(0, 1), place(0, 1)),)):
            self.unstilled(rig, pool, least_strength(rig, pool))

    def test_drawn(self):
        draws = Draws("least strengths")
        found = 0
        for _ in range(100):
            rig, pool = draws.pooled(most=8)
            told = least_strength(rig, pool)
            if type(stills(rig, pool)) is NoStrengths:
                self.unstilled(rig, pool, told)
                continue
            found += 1
            self.least(rig, pool, told)
            # No lean lot has less, and the least sum is that of one of them.
            sums = [sum(fracs(row)) for _, row in still_lots(rig, pool)]
            self.assertEqual(frac(told.value), min(sums))
        self.assertGreater(found, 20)


class Results(Case):
    def test_equality(self):
        row, table = qs("1 2"), zero_couplings(2)
        other = couplings_by(2, qs("1 0 0"))
        for made, like, others in (
                (Strengths(row), Strengths(row), (Strengths(()), NoStrengths(row), row, None, Solution(row))),
                (NoStrengths(table), NoStrengths(zero_couplings(2)), (NoStrengths(other), Strengths(table), table)),
                (LeastStrengths(ONE, row, table), LeastStrengths(ONE, row, zero_couplings(2)),
                 (LeastStrengths(ZERO, row, table), LeastStrengths(ONE, (), table), LeastStrengths(ONE, row, other), None))):
            self.assertTrue(made == like)
            self.unlike_all(made, others)


class WithWhatIsBuilt(PoolCase):
    def test_grown_shifted_renamed_and_read(self):
        draws = Draws("pools of other rigs")
        for _ in range(40):
            rig, pool = draws.pooled()
            arms = rig.arms
            told = stills(rig, pool)
            read = rig_of(arms_of(arm_text(arms)), rig_text(rig))
            self.assertTrue(stills(read, pool) == told)
            lots = list(still_lots(rig, pool))
            self.same(list(still_lots(read, pool)), lots)
            step, size = draws.ratio(), draws.positive()
            # Springs on the arms and the pool as the rig's places are moved.
            carried = Rig(arms, (), [span + (ONE,) for span in pool])
            for other, moved in ((rig.shifted(step), carried.shifted(step)), (rig.grown(size), carried.grown(size))):
                spans = tuple(spring[:2] for spring in moved.springs)
                self.same(list(still_lots(other, spans)), lots)
                if type(told) is Strengths:
                    self.stilled(other, spans, told.row)
                else:
                    self.unstilled(other, spans, told)
            order = list(range(1, arms.letters + 1))
            draws.random.shuffle(order)
            renamed = stills(rig.renamed(order), pool)
            self.assertIs(type(renamed), type(told))
            self.same(list(still_lots(rig.renamed(order), pool)), lots)
            if type(told) is Strengths:
                self.stilled(rig.renamed(order), pool, told.row)

    def test_many_springs(self):
        # Tables tell that a rig is still, even where no rig can bear so many springs.
        rig = rig_with(1, c01=1)
        rig = Rig(rig.arms, (), rig.springs * 12)
        pool = ((place(MAST, 1), place(0, 1)),)
        self.same(stills(rig, pool).row, (q(12),))
        self.assertIsNone(stills_fault(rig, pool, Strengths((q(12),))))

    def test_bars_about_the_foot(self):
        arms = free(2)
        self.same(solve_task([span_couplings(arms, *SPAN).numbers], qs("-4 0 0")).amounts, (ONE,))


if __name__ == "__main__":
    unittest.main()
