"""lockstill.py [9.3], [9.4]."""
import itertools
import unittest

from stillarms.couplings import couplings_of
from stillarms.directions import DOWN, LEFT, RIGHT, UP, cosine_between, sine_between
from stillarms.locks import leaders_of, locked_pose, obeys_locks
from stillarms.lockstill import Uneven, fewest_locks, locked_couplings, still_locked, stilling_locks
from stillarms.poses import quarter_poses, up_pose
from stillarms.ratios import ONE, ZERO
from stillarms.rigs import Rig
from stillarms.stillness import is_still, work_by
from tests.cases import Case, Draws, balanced, frac, free, lamp_rig, q, rig_with
from tests.test_leastwork import drawn_table
from tests.test_locks import drawn_locks
from tests.test_rests import rig_of_table


class Couplings(Case):
    def test_all_differences_of_quarters(self):
        # Letters 1 and 2 are coupled with 5; letter 1 has the leader 0, letter 2 the leader 3 or itself.
        for first, second in itertools.product(range(4), range(4)):
            rig = rig_with(4, c24=5)
            told = locked_couplings(rig, ((1, 2, first), (3, 4, second)))
            step = (second - first) % 4
            along = {0: "5", 2: "-5"}.get(step, "0")
            across = {1: "-5", 3: "5"}.get(step, "0")
            self.same(told, ((0, 1, ZERO, ZERO), (0, 3, ZERO, ZERO), (1, 3, q(along), q(across))))

    def test_pairs_against_the_order_of_their_leaders(self):
        # Letter 1 has the leader 1, letter 2 the leader 0: the pair 1, 2 is one of the leaders 0, 1.
        for quarters, along, across in ((0, "5", "0"), (1, "0", "5"), (2, "-5", "0"), (3, "0", "-5")):
            rig = rig_with(2, c12=5)
            self.same(locked_couplings(rig, ((0, 2, quarters),)), ((0, 1, q(along), q(across)),))
        rig = rig_with(3, c23=5)
        self.same(locked_couplings(rig, ((1, 3, 1),)), ((0, 1, ZERO, ZERO), (0, 2, ZERO, ZERO), (1, 2, ZERO, q(5))))

    def test_by_hand(self):
        rig = rig_with(2, c01=2, c02=3, c12=7)
        self.same(locked_couplings(rig, ()), ((0, 1, q(2), ZERO), (0, 2, q(3), ZERO), (1, 2, q(7), ZERO)))
        self.same(locked_couplings(rig, [[1, 2, 0]]), ((0, 1, q(5), ZERO),))
        self.same(locked_couplings(rig, ((1, 2, 1),)), ((0, 1, q(2), q(-3)),))
        self.same(locked_couplings(rig, ((0, 1, 2), (1, 2, 0))), ())

    def test_drawn(self):
        draws = Draws("locked couplings")
        for _ in range(60):
            rig = draws.rig()
            locks = drawn_locks(draws, rig.arms.letters)
            rows = locked_couplings(rig, locks)
            leaders = [letter for letter, (leader, _) in enumerate(leaders_of(rig.arms, locks)) if letter == leader]
            self.same([row[:2] for row in rows], list(itertools.combinations(leaders, 2)))
            rests = set()
            for _ in range(4):
                pose = locked_pose(rig.arms, locks, draws.pose(rig.arms))
                ways = (UP,) + pose
                total = sum(frac(along) * frac(cosine_between(ways[one], ways[other])) + frac(across) * frac(sine_between(ways[one], ways[other]))
                            for one, other, along, across in rows)
                rests.add(frac(work_by(couplings_of(rig), pose)) - total)
            self.assertEqual(len(rests), 1)


class StillLocked(Case):
    def judged(self, rig, locks):
        """Whether the rig is still by these locks, what shows it being right."""
        told = still_locked(rig, locks)
        couplings = couplings_of(rig)
        start = work_by(couplings, locked_pose(rig.arms, locks, up_pose(rig.arms)))
        rises = [(pose, q(frac(work_by(couplings, pose)) - frac(start))) for pose in quarter_poses(rig.arms) if obeys_locks(rig.arms, locks, pose)]
        uneven = [row for row in rises if row[1] != ZERO]
        if told is None:
            self.assertEqual(uneven, [])
        else:
            self.assertIs(type(told), Uneven)
            self.same((told.pose, told.rise), uneven[0])
        return told is None

    def test_by_hand(self):
        bare = balanced().bare()
        self.assertIsNone(still_locked(balanced(), ()))
        self.same(vars(still_locked(bare, ())), {"pose": (LEFT,), "rise": q(-2)})
        self.assertIsNone(still_locked(bare, ((0, 1, 3),)))
        rig = rig_with(2, c01=1, c02=1)
        self.assertIsNone(still_locked(rig, ((1, 2, 2),)))
        self.same(vars(still_locked(rig, [[1, 2, 0]])), {"pose": (LEFT, LEFT), "rise": q(-2)})
        self.same(vars(still_locked(rig, ((1, 2, 1),))), {"pose": (LEFT, DOWN), "rise": q(-2)})
        self.same(vars(still_locked(rig, ((0, 1, 1),))), {"pose": (LEFT, LEFT), "rise": q(-1)})
        # Letter 2 a quarter to the left of letter 1: the work is 2 for letter 1 up, and is as much with it to the right.
        rig = rig_with(2, c01=2, c02=-2)
        self.same(vars(still_locked(rig, ((1, 2, 1),))), {"pose": (DOWN, RIGHT), "rise": q(-4)})

    def test_drawn(self):
        draws = Draws("still by locks")
        count = {True: 0, False: 0}
        for _ in range(80):
            rig = rig_of_table(drawn_table(draws, draws.random.randint(1, 3)))
            locks = drawn_locks(draws, rig.arms.letters)
            count[self.judged(rig, locks)] += 1
        self.assertTrue(all(many > 10 for many in count.values()), count)
        for _ in range(6):
            rig = rig_of_table(drawn_table(draws, 4))
            self.judged(rig, drawn_locks(draws, 4))


def all_locks(letters):
    return [(one, other, quarters) for one in range(letters) for other in range(one + 1, letters + 1) for quarters in range(4)]


def slow_fewest(rig):
    """The fewest locks by trying all tuples with ascending second letters."""
    letters = rig.arms.letters
    for many in range(letters + 1):
        tuples = sorted(locks for locks in itertools.permutations(all_locks(letters), many)
                        if all(one[1] < other[1] for one, other in zip(locks, locks[1:])))
        for locks in tuples:
            if still_locked(rig, locks) is None:
                return locks
    return None


class Fewest(Case):
    def test_stilling_by_hand(self):
        self.same(stilling_locks(balanced()), ((0, 1, 0), (0, 1, 1), (0, 1, 2), (0, 1, 3)))
        self.same(stilling_locks(balanced().bare()), ((0, 1, 0), (0, 1, 1), (0, 1, 2), (0, 1, 3)))
        self.same(stilling_locks(rig_with(2, c01=1, c02=1)), ((1, 2, 2),))
        self.same(stilling_locks(rig_with(2, c01=1, c02=-1)), ((1, 2, 0),))
        self.same(stilling_locks(rig_with(2, c01=1, c02=2)), ())
        self.same(stilling_locks(rig_with(2, c12=1)), tuple((1, 2, turn) for turn in range(4)))
        self.same(stilling_locks(lamp_rig()), ())
        self.same(stilling_locks(Rig(free(3), (), ())), tuple(all_locks(3)))

    def test_fewest_by_hand(self):
        self.same(fewest_locks(balanced()), ())
        self.same(fewest_locks(balanced().bare()), ((0, 1, 0),))
        self.same(fewest_locks(rig_with(2, c01=1, c02=1)), ((1, 2, 2),))
        self.same(fewest_locks(rig_with(2, c01=1, c02=2)), ((0, 1, 0), (0, 2, 0)))
        self.same(fewest_locks(rig_with(3, c12=1, c13=1)), ((2, 3, 2),))
        self.same(fewest_locks(rig_with(4, c01=1, c02=1, c03=5, c04=-5)), ((1, 2, 2), (3, 4, 0)))
        # The locks come in the order of tuples, which ask the first letter before the second.
        self.same(fewest_locks(rig_with(4, c12=1, c34=1)), ((1, 2, 0), (3, 4, 0)))
        # Second letters ascend, also where tuples would come in another order: the lock of 0 with 3 comes last.
        self.same(fewest_locks(rig_with(3, c03=1, c12=2)), ((1, 2, 0), (0, 3, 0)))
        self.same(fewest_locks(rig_with(3, c03=1, c12=1)), ((0, 1, 0), (2, 3, 2)))
        # Locks of quarters alone: the couplings with letter 0 do away with one another a quarter apart.
        self.same(fewest_locks(rig_with(3, c02=3, c12=3)), ((0, 1, 2),))
        self.same(fewest_locks(rig_with(3, c02=3, c12=-3)), ((0, 1, 0),))

    def test_drawn(self):
        draws = Draws("fewest locks")
        count = {}
        for _ in range(60):
            letters = draws.random.randint(1, 3)
            few = draws.random.random() < 0.7
            numbers = [draws.random.choice((0, 0, 1, -1) if few else (1, 3, 5, 8, 13)) for _ in itertools.combinations(range(letters + 1), 2)]
            names = [f"c{one}{other}" for one, other in itertools.combinations(range(letters + 1), 2)]
            rig = rig_with(letters, **{name: number for name, number in zip(names, numbers) if number})
            told = fewest_locks(rig)
            self.same(told, slow_fewest(rig))
            self.assertEqual(told == (), is_still(rig))
            alone = tuple(lock for lock in all_locks(letters) if still_locked(rig, (lock,)) is None)
            self.same(stilling_locks(rig), alone)
            self.assertEqual(len(told) <= 1, bool(alone))
            count[len(told)] = count.get(len(told), 0) + 1
        self.assertEqual(sorted(count), [0, 1, 2, 3])

    def test_four_letters(self):
        draws = Draws("four letters")
        for _ in range(5):
            rig = draws.rig(draws.arms(4))
            told = fewest_locks(rig)
            self.assertIsNone(still_locked(rig, told))
            self.assertTrue(all(one[1] < other[1] for one, other in zip(told, told[1:])))

    def test_equality(self):
        made = Uneven((UP,), ONE)
        self.assertTrue(made == Uneven((UP,), ONE))
        self.unlike_all(made, (Uneven((DOWN,), ONE), Uneven((UP,), ZERO), None, ((UP,), ONE)))
        self.assertFalse(made == Uneven([UP], ONE))


if __name__ == "__main__":
    unittest.main()
