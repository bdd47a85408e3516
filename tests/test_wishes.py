"""wishes.py [11.3]."""
import itertools
import unittest

from stillarms.directions import DOWN, LEFT, UP
from stillarms.errors import BadWish, TooMixed
from stillarms.feels import felt_weight
from stillarms.leastwork import least_work
from stillarms.lockstill import still_locked
from stillarms.brakes import is_held
from stillarms.ratios import ONE, ZERO
from stillarms.rigs import Rig
from stillarms.stillness import is_still
from stillarms.wishes import check_wish, check_wishes, holds_all, holds_wish
from stillarms.works import rests_in
from tests.cases import MAST, NO_RATIOS, ODD_THINGS, Case, Draws, balanced, free, lamp, lamp_rig, place, q, qs, rig_with
from tests.test_brakes import BAD_BRAKES
from tests.test_feels import BAD_PLACES
from tests.test_locks import BAD_LOCKS, drawn_locks
from tests.test_rests import BAD_POSES

STILL = ("still",)

# For arms of two letters.
RIGHT_WISHES = (STILL, ("still locked", ()), ("still locked", ((0, 1, 0), [1, 2, 3])), ("held", qs("1 2")), ("held", list(qs("0 0"))), ("rests", (UP, LEFT)),
                ("rests", [list(UP), DOWN]), ("feels", place(1, 2), q(-3)), ("feels", [MAST, ZERO], ZERO), ("least", q("-7/2")), ["still"], ["least", ZERO])
BAD_WISHES = ODD_THINGS + (
    5, "still", (), ("still", 1), ("stil",), ("Still",), (["still"],), (None,), (b"still",), (0,), ("still locked",), ("still locked", (), ()), ("held",),
    ("held", qs("1 2"), 1), ("rests",), ("rests", (UP, UP), 1), ("feels", place(0, 1)), ("feels", place(0, 1), ONE, ONE), ("feels",), ("least",),
    ("least", ONE, ONE), {0: "still"}, (STILL,), ("",)) + tuple(("still locked", locks) for _, _, locks in BAD_LOCKS) + tuple(
    ("held", brakes) for _, brakes in BAD_BRAKES) + tuple(("rests", pose) for _, pose in BAD_POSES) + tuple(
    ("feels", thing, ONE) for thing in BAD_PLACES) + tuple(("feels", place(0, 1), thing) for thing in NO_RATIOS) + tuple(("least", thing) for thing in NO_RATIOS)


class Checking(Case):
    def test_right(self):
        for wish in RIGHT_WISHES:
            self.assertIsNone(check_wish(lamp(), wish))
            self.assertIn(holds_wish(lamp_rig(), wish), (True, False))
        for wishes in ((), [], RIGHT_WISHES[:4], list(RIGHT_WISHES[-4:]), (STILL,) * 4):
            self.assertIsNone(check_wishes(lamp(), wishes))
            self.assertIn(holds_all(lamp_rig(), wishes), (True, False))

    def test_wrong(self):
        rig = lamp_rig()
        for wish in BAD_WISHES:
            told = {"index": 0, "what": "wish"}
            self.fails(BadWish, told, check_wish, lamp(), wish)
            self.fails(BadWish, told, holds_wish, rig, wish)
            self.fails(BadWish, told, check_wishes, lamp(), (wish, None))
            told = {"index": 2, "what": "wish"}
            # The first wish does not hold; all are checked all the same.
            self.fails(BadWish, told, holds_all, rig, [STILL, ("rests", (UP, LEFT)), wish])
            self.fails(BadWish, told, check_wishes, lamp(), [STILL, ("rests", (UP, LEFT)), wish, None])

    def test_many(self):
        for wishes in ODD_THINGS + (5, "still", (STILL,) * 5, (None,) * 5, range(1), {0: STILL}):
            self.fails(BadWish, {"index": 0, "what": "many"}, check_wishes, lamp(), wishes)
            self.fails(BadWish, {"index": 0, "what": "many"}, holds_all, lamp_rig(), wishes)

    def test_other_arms(self):
        for wish in (("still locked", ((1, 2, 0),)), ("held", qs("1 2")), ("rests", (UP, UP)), ("feels", place(1, 1), ONE)):
            self.assertIsNone(check_wish(lamp(), wish))
            self.fails(BadWish, {"index": 0, "what": "wish"}, check_wish, free(1), wish)


class Holding(Case):
    def test_by_hand(self):
        still, bare = balanced(), balanced().bare()
        for wish, of_still, of_bare in (
                (STILL, True, False), (("still locked", ()), True, False), (("still locked", ((0, 1, 2),)), True, True), (("held", qs("0")), True, False),
                (("held", qs("2")), True, True), (("held", qs("199/100")), True, False), (("rests", (UP,)), True, True), (("rests", (LEFT,)), True, False),
                (("feels", place(0, 2), ONE), False, True), (("feels", place(0, 2), ZERO), True, False), (("feels", place(0, 4), q("1/2")), False, True),
                (("feels", place(MAST, 2), ZERO), True, False), (("least", q("17/4")), True, False), (("least", q("-2")), True, True),
                (("least", q("-199/100")), True, False), (("least", q("426/100")), False, False)):
            self.assertIs(holds_wish(still, wish), of_still, wish)
            self.assertIs(holds_wish(bare, list(wish)), of_bare, wish)

    def test_a_mixed_rig_has_no_least_work(self):
        springs = [(place(one, 1), place(other, -1), ONE) for one, other in itertools.combinations(range(MAST, 4), 2)]
        rig = Rig(free(4), (), springs)
        self.assertRaises(TooMixed, least_work, rig)
        self.assertIs(holds_wish(rig, ("least", q(-1000))), False)
        self.assertIs(holds_all(rig, (("least", q(-1000)),)), False)
        self.assertIs(holds_wish(rig_with(4, c01=-1), ("least", q(-1000))), True)

    def test_all(self):
        bare = balanced().bare()
        right, wrong = ("least", q(-2)), STILL
        for wishes, told in (((), True), ((right,) * 4, True), ((right, wrong), False), ((wrong, right), False), ([right, right, right, wrong], False)):
            self.assertIs(holds_all(bare, wishes), told)

    def test_drawn(self):
        draws = Draws("wishes")
        count = {}
        for _ in range(120):
            rig = draws.rig(draws.arms(draws.random.randint(1, 2)), 2, 2)
            if draws.random.random() < 0.3:
                rig = Rig(rig.arms, (), ())
            locks, pose, where = drawn_locks(draws, rig.arms.letters), draws.pose(rig.arms), draws.place(rig.arms)
            brakes = tuple(q(draws.random.randint(0, 60)) for _ in range(rig.arms.letters))
            ratio = draws.random.choice((ZERO, felt_weight(rig, where) or ONE))
            level = draws.random.choice((least_work(rig), draws.ratio(-60, 60)))
            for wish, holds in ((STILL, is_still(rig)), (("still locked", locks), still_locked(rig, locks) is None), (("held", brakes), is_held(rig, brakes)),
                                (("rests", pose), rests_in(rig, pose)), (("feels", where, ratio), felt_weight(rig, where) == ratio),
                                (("least", level), least_work(rig)[0] * level[1] >= level[0] * least_work(rig)[1])):
                self.assertIs(holds_wish(rig, wish), holds)
                count[wish[0], holds] = count.get((wish[0], holds), 0) + 1
        self.assertEqual(len(count), 12, count)


if __name__ == "__main__":
    unittest.main()
