"""mends.py [11.4] to [11.6]."""
import itertools
import unittest

from stillarms.changes import apply_changes
from stillarms.directions import LEFT
from stillarms.errors import BadChange, BadWish
from stillarms.mends import Mend, good_selections, least_mends, mends_fault, spoilers
from stillarms.ratios import ONE
from stillarms.rigs import Rig
from stillarms.wishes import holds_all
from tests.cases import MAST, ODD_THINGS, Case, Draws, balanced, free, lamp_rig, place, q
from tests.test_changes import BAD_FORMS, CUT, DROP, SPRING, WEIGHT
from tests.test_wishes import BAD_WISHES

STILL = ("still",)

# The bare weight of 1 at 0:2 is stilled by a spring of strength 1/2 or by two of 1/4, by a counterweight, or by being dropped.
HALF_SPRING = ("spring", place(MAST, 4), place(0, 1), q("1/2"))
QUARTER = ("spring", place(MAST, 4), place(0, 1), q("1/4"))
COUNTER = ("weight", place(0, -2), ONE)


def bare():
    return balanced().bare()


def selections(many):
    return [lot for size in range(many + 1) for lot in itertools.combinations(range(many), size)]


def behind(rig, pool, selection):
    try:
        return apply_changes(rig, [pool[index] for index in selection])
    except BadChange:
        return None


class Selecting(Case):
    def judged(self, rig, pool, wishes):
        good = [lot for lot in selections(len(pool)) if behind(rig, pool, lot) is not None and holds_all(behind(rig, pool, lot), wishes)]
        least = [lot for lot in good if not any(set(other) < set(lot) for other in good)]
        self.same(good_selections(rig, pool, wishes), tuple(good))
        told = least_mends(rig, pool, wishes)
        self.assertIs(type(told), tuple)
        self.same([(type(mend), mend.selection) for mend in told], [(Mend, lot) for lot in least])
        for mend in told:
            self.assertTrue(mend.rig == behind(rig, pool, mend.selection))
        spoiling = [(lot, index) for lot in least for index in range(len(pool)) if index not in lot
                    and tuple(sorted(lot + (index,))) not in good and behind(rig, pool, sorted(lot + (index,))) is not None]
        self.same(spoilers(rig, pool, wishes), tuple(spoiling))
        self.assertIsNone(mends_fault(rig, pool, wishes, told))
        self.assertIsNone(mends_fault(rig, list(pool), list(wishes), list(told)))
        return good, least, spoiling

    def test_by_hand(self):
        pool = (HALF_SPRING, QUARTER, QUARTER, COUNTER, DROP)
        good, least, spoiling = self.judged(bare(), pool, (STILL,))
        self.assertEqual(least, [(0,), (3,), (4,), (1, 2)])
        self.assertEqual(good, [(0,), (3,), (4,), (1, 2)])
        self.assertIn(((0,), 1), spoiling)
        self.assertIn(((1, 2), 0), spoiling)

    def test_nothing_is_to_be_done(self):
        good, least, spoiling = self.judged(balanced(), (WEIGHT, DROP), (STILL,))
        self.assertEqual((good, least, spoiling), ([()], [()], [((), 0), ((), 1)]))
        good, least, _ = self.judged(balanced(), (WEIGHT,), ())
        self.assertEqual((good, least), ([(), (0,)], [()]))

    def test_nothing_helps(self):
        self.assertEqual(self.judged(bare(), (QUARTER,), (STILL,)), ([], [], []))

    def test_refused(self):
        # Two drops of weight 0 cannot both be applied; the second one alone can.
        good, least, spoiling = self.judged(bare(), (DROP, DROP, ("cut", 0)), (STILL,))
        self.assertEqual((good, least, spoiling), ([(0,), (1,)], [(0,), (1,)], []))
        # Behind a spring that is put there, there is something to cut.
        good, _, _ = self.judged(bare(), (HALF_SPRING, ("cut", 0), HALF_SPRING), (STILL,))
        self.assertEqual(good, [(0,), (2,), (0, 1, 2)])
        full = Rig(free(1), [(place(0, 0), ONE)] * 8, ())
        good, least, _ = self.judged(full, (WEIGHT, ("drop", 7), ("weight", place(0, 0), ONE)), (STILL,))
        self.assertEqual((good, least), ([(), (1,), (1, 2)], [()]))

    def test_good_around_good_ones(self):
        pool = (HALF_SPRING, ("weight", place(0, 0), ONE), ("weight", place(MAST, 3), ONE), DROP, ("cut", 0))
        good, least, spoiling = self.judged(bare(), pool, (STILL,))
        self.assertEqual(least, [(0,), (3,)])
        self.assertIn((0, 1), good)
        self.assertIn((0, 1, 2), good)
        self.assertNotIn((0, 4), good)
        self.assertIn((0, 3, 4), good)
        self.assertEqual(spoiling, [((0,), 3), ((0,), 4), ((3,), 0)])

    def test_wishes_of_all_kinds(self):
        pool = (HALF_SPRING, QUARTER, COUNTER, ("cut", 0), ("weight", place(0, 4), ONE))
        for wishes in ((("held", (ONE,)),), (("still locked", ((0, 1, 1),)),), (("rests", (LEFT,)),), (("feels", place(0, 2), q("1/2")),),
                       (("least", q(0)), ("held", (q(3),))), (("least", q("9/2")), STILL)):
            self.judged(bare(), pool, wishes)

    def test_drawn(self):
        draws = Draws("mends")
        count = 0
        for _ in range(30):
            arms = free(draws.random.randint(1, 2))
            rig = draws.rig(arms, 2, 2)
            pool = []
            for _ in range(draws.random.randint(1, 5)):
                form = draws.random.choice(("weight", "spring", "drop", "cut"))
                pool.append({"weight": (form, draws.small_place(arms), ONE), "spring": (form, draws.small_place(arms), draws.small_place(arms), ONE),
                             "drop": (form, draws.random.randint(0, 2)), "cut": (form, draws.random.randint(0, 2))}[form])
            brakes = tuple(q(draws.random.randint(0, 12)) for _ in range(arms.letters))
            good, least, _ = self.judged(rig, pool, (("held", brakes),))
            count += len(good) > len(least) > 0
        self.assertGreater(count, 5)


class Wrong(Case):
    def fail(self, error, told, pool, wishes):
        for function in (good_selections, least_mends, spoilers):
            self.fails(error, told, function, lamp_rig(), pool, wishes)

    def test_pool(self):
        for pool in ODD_THINGS + (5, "drop", (), [], (DROP,) * 6, (None,) * 6, range(1), {0: DROP}):
            self.fail(BadChange, {"index": 0, "what": "pool"}, pool, None)
        for function in (good_selections, least_mends, spoilers):
            function(lamp_rig(), (DROP,) * 5, ())
            function(lamp_rig(), [list(CUT)], [])

    def test_forms(self):
        for what, change in BAD_FORMS:
            self.fail(BadChange, {"index": 0, "what": what}, (change, None), None)
            self.fail(BadChange, {"index": 2, "what": what}, [DROP, SPRING, change], (STILL,))

    def test_wishes(self):
        for wishes in ODD_THINGS + (5, (STILL,) * 5):
            self.fail(BadWish, {"index": 0, "what": "many"}, (DROP,), wishes)
        for wish in BAD_WISHES:
            self.fail(BadWish, {"index": 1, "what": "wish"}, (("drop", 99),), (STILL, wish, None))


class Judge(Case):
    POOL = (HALF_SPRING, QUARTER, QUARTER, COUNTER, DROP)

    def judged(self, mends, wishes=(STILL,), rig=None):
        return mends_fault(rig or bare(), self.POOL, wishes, mends)

    def mend(self, *selection):
        return Mend(selection, behind(bare(), self.POOL, selection))

    def right(self):
        return [self.mend(0), self.mend(3), self.mend(4), self.mend(1, 2)]

    def test_right(self):
        self.assertIsNone(self.judged(self.right()))
        self.assertIsNone(self.judged(tuple(self.right())))
        self.assertIsNone(self.judged((self.mend(),), ()))

    def test_mends(self):
        for mends in ODD_THINGS + (5, self.mend(0), (self.mend(0), None), (None, Mend(None, None)), ((0,),), {0: self.mend(0)}):
            self.assertEqual(self.judged(mends), "mends")

    def test_selection(self):
        for selection in ODD_THINGS + (5, [0], (5,), (-1,), (1, 1), (2, 1), (True,), (0.0,), ("0",), ((0,),), (None,), (0, True)):
            self.assertEqual(self.judged((Mend(selection, None), self.mend(0))), "selection", selection)
            self.assertEqual(self.judged(self.right() + [Mend(selection, bare())]), "selection")

    def test_refused(self):
        pool = (DROP, DROP, HALF_SPRING)
        told = Mend((0, 1), None)
        self.assertEqual(mends_fault(bare(), pool, (STILL,), (told,)), "refused")
        self.assertEqual(mends_fault(bare(), pool, (STILL,), (Mend((2,), behind(bare(), pool, (2,))), told)), "refused")

    def test_behind(self):
        for rig in ODD_THINGS + (bare(), balanced().grown(q(2)), behind(bare(), self.POOL, (1, 2))):
            self.assertEqual(self.judged((Mend((0,), rig),)), "behind")
        other = Rig(free(1), balanced().weights, balanced().springs)
        self.assertEqual(self.judged((Mend((0,), other), self.mend(1))), "wish")

    def test_wish_and_least(self):
        self.assertEqual(self.judged((self.mend(1),)), "wish")
        self.assertEqual(self.judged((self.mend(0), self.mend(0, 1))), "wish")
        self.assertEqual(self.judged((self.mend(0),), (STILL, ("feels", place(0, 2), ONE))), "wish")
        # With no wishes all that is not refused is good.
        self.assertEqual(self.judged((self.mend(0),), ()), "least")
        self.assertEqual(self.judged((self.mend(), self.mend(0, 1))[1:], ()), "least")
        pool = (HALF_SPRING, ("weight", place(0, 0), ONE))
        told = [Mend(lot, behind(bare(), pool, lot)) for lot in ((0,), (0, 1))]
        self.assertEqual(mends_fault(bare(), pool, (STILL,), told), "least")
        self.assertIsNone(mends_fault(bare(), pool, (STILL,), told[:1]))
        # Mend by mend: the second is faulty, the third would have an earlier word.
        self.assertEqual(mends_fault(bare(), pool, (STILL,), told + [Mend(None, None)]), "least")

    def test_order_and_missing(self):
        right = self.right()
        self.assertEqual(self.judged(right[::-1]), "order")
        self.assertEqual(self.judged(right[:2] + right[1:]), "order")
        self.assertEqual(self.judged([right[1], right[0]] + right[2:]), "order")
        self.assertEqual(self.judged([right[3]] + right[:3]), "order")
        self.assertEqual(self.judged(right[:2] + [right[3], right[2]]), "order")
        for index in range(4):
            self.assertEqual(self.judged(right[:index] + right[index + 1:]), "missing")
        self.assertEqual(self.judged(()), "missing")
        self.assertIsNone(mends_fault(bare(), (QUARTER,), (STILL,), ()))

    def test_equality(self):
        made = Mend((0,), bare())
        self.assertTrue(made == Mend((0,), bare()))
        self.unlike_all(made, (Mend((1,), bare()), Mend((0,), balanced()), None, bare(), (0,)))


if __name__ == "__main__":
    unittest.main()
