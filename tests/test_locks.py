"""locks.py [9.1], [9.2]."""
import unittest

from stillarms.directions import DOWN, LEFT, RIGHT, UP, turned_quarters
from stillarms.errors import BadLock, BadPose
from stillarms.locks import check_locks, leaders_of, locked_pose, obeys_locks
from stillarms.poses import check_pose, quarter_poses
from stillarms.ratios import ONE
from stillarms.rigs import Rig
from stillarms.lockstill import locked_couplings, still_locked
from tests.cases import ODD_THINGS, Case, Draws, free, lamp, q
from tests.test_rests import BAD_POSES, OTHER_SLANT, SLANT

# For arms of two letters.
BAD_LOCKS = tuple((0, "many", thing) for thing in ODD_THINGS + (5, "01", range(1), ((0, 1, 0), (0, 2, 0), (1, 2, 0)), (None,) * 3)) + tuple(
    (0, "lock", (thing,)) for thing in ODD_THINGS + ((), (0, 1), (0, 1, 0, 0), "010", {0: 1, 1: 2, 2: 3}, 5)) + tuple(
    (0, "letters", (thing,)) for thing in ((1, 1, 0), (1, 0, 0), (-1, 1, 0), (0, 3, 0), (2, 3, 0), (2, 2, None), (True, 2, 0), (0, True, 0),
                                           (False, 1, 0), (None, 1, 0), (0, None, 9), (0.0, 1, 0), ("0", "1", 0), (0, ONE, 0), (2, 0, 0))) + tuple(
    (0, "quarters", ((0, 1, thing),)) for thing in ODD_THINGS + (4, -1, ONE)) + (
    (1, "lock", ((0, 1, 0), None)), (1, "letters", ((0, 1, 0), (1, 1, 0))), (1, "quarters", ((0, 1, 0), (1, 2, 4))),
    (1, "tied", ((0, 1, 0), (0, 1, 0))), (1, "tied", ((1, 2, 3), [1, 2, 1])), (1, "quarters", ((0, 1, 0), (0, 1, 5))),
    (0, "quarters", ((0, 1, 5), None)))

# For arms of four letters: what ties two letters goes by way of others.
TIED = ((2, ((0, 1, 0), (1, 2, 0), (0, 2, 0))), (2, ((0, 2, 1), (1, 2, 0), (0, 1, 1))), (3, ((0, 3, 0), (1, 2, 0), (2, 3, 0), (0, 1, 0))),
        (2, ((1, 4, 0), (3, 4, 0), (1, 3, 0), None)), (3, ((0, 4, 0), (1, 2, 0), (2, 4, 2), (0, 1, 2))))


class Checking(Case):
    def test_right(self):
        arms = free(4)
        for locks in ((), ((0, 1, 0),), ((3, 4, 3), (0, 2, 2)), ((0, 4, 1), (1, 4, 2), (2, 4, 3), (3, 4, 0)), ((0, 1, 0), (1, 2, 1), (2, 3, 2), (3, 4, 3))):
            self.same(check_locks(arms, locks), locks)
            self.same(check_locks(arms, [list(lock) for lock in locks]), locks)

    def test_wrong(self):
        arms, pose = lamp(), (UP, UP)
        rig = Rig(arms, (), ())
        for index, what, locks in BAD_LOCKS:
            told = {"index": index, "what": what}
            self.fails(BadLock, told, check_locks, arms, locks)
            self.fails(BadLock, told, leaders_of, arms, locks)
            self.fails(BadLock, told, obeys_locks, arms, locks, None)
            self.fails(BadLock, told, locked_pose, arms, locks, None)
            self.fails(BadLock, told, locked_pose, arms, locks, pose)
            self.fails(BadLock, told, locked_couplings, rig, locks)
            self.fails(BadLock, told, still_locked, rig, locks)
        for index, locks in TIED:
            self.fails(BadLock, {"index": index, "what": "tied"}, check_locks, free(4), locks)
        for index, bad in BAD_POSES:
            self.fails(BadPose, {"index": index}, obeys_locks, arms, ((0, 1, 0),), bad)
            self.fails(BadPose, {"index": index}, locked_pose, arms, (), bad)

    def test_not_kept(self):
        locks = [[0, 1, 0]]
        told = check_locks(lamp(), locks)
        locks[0][2] = 3
        self.same(told, ((0, 1, 0),))


class Leaders(Case):
    def test_by_hand(self):
        arms = free(4)
        for locks, leaders in (
                ((), ((0, 0), (1, 0), (2, 0), (3, 0), (4, 0))),
                (((0, 1, 3),), ((0, 0), (0, 3), (2, 0), (3, 0), (4, 0))),
                (((1, 2, 1), (2, 3, 2)), ((0, 0), (1, 0), (1, 1), (1, 3), (4, 0))),
                # The lock of 0 with 4 makes 0 the leader of all that 4 was tied to.
                (((1, 4, 1), (2, 4, 3), (0, 4, 2)), ((0, 0), (0, 1), (0, 3), (3, 0), (0, 2))),
                (((3, 4, 1), (1, 2, 3), (2, 3, 2)), ((0, 0), (1, 0), (1, 3), (1, 1), (1, 2))),
                (((2, 4, 1), (1, 4, 0)), ((0, 0), (1, 0), (1, 3), (3, 0), (1, 0)))):
            self.same(leaders_of(arms, locks), leaders)
            self.same(leaders_of(arms, [list(lock) for lock in locks]), leaders)

    def test_drawn(self):
        draws = Draws("locks")
        for _ in range(80):
            arms = free(draws.random.randint(1, 4))
            locks = drawn_locks(draws, arms.letters)
            leaders = leaders_of(arms, locks)
            tied = groups(arms.letters, locks)
            for letter, (leader, quarters) in enumerate(leaders):
                self.assertEqual(leader, min(group for group in tied[letter]))
                self.assertIn(quarters, range(4))
            for one, other, quarters in locks:
                self.assertEqual(leaders[one][0], leaders[other][0])
                self.assertEqual((leaders[other][1] - leaders[one][1] - quarters) % 4, 0)


def groups(letters, locks):
    """For each letter those that are tied to it, itself too."""
    tied = {letter: {letter} for letter in range(letters + 1)}
    for one, other, _ in locks:
        both = tied[one] | tied[other]
        for letter in both:
            tied[letter] = both
    return tied


def drawn_locks(draws, letters):
    locks = []
    for _ in range(draws.random.randint(0, letters)):
        one = draws.random.randint(0, letters - 1)
        other = draws.random.randint(one + 1, letters)
        if other not in groups(letters, locks)[one]:
            locks.append((one, other, draws.random.randint(0, 3)))
    return tuple(locks)


class Obeying(Case):
    def test_by_hand(self):
        arms = lamp()
        for locks, pose, obeyed in (
                ((), (SLANT, LEFT), True), (((0, 1, 0),), (UP, SLANT), True), (((0, 1, 0),), (DOWN, SLANT), False),
                (((0, 1, 1),), (LEFT, SLANT), True), (((0, 1, 1),), (RIGHT, SLANT), False), (((0, 1, 2),), (DOWN, UP), True),
                (((0, 2, 3),), (SLANT, RIGHT), True), (((1, 2, 1),), (SLANT, turned_quarters(SLANT, 1)), True),
                (((1, 2, 1),), (SLANT, turned_quarters(SLANT, 3)), False), (((1, 2, 0),), (SLANT, OTHER_SLANT), False),
                (((0, 1, 1), (1, 2, 1)), (LEFT, DOWN), True), (((0, 1, 1), (1, 2, 1)), (LEFT, UP), False), (((0, 1, 1), (1, 2, 1)), (DOWN, RIGHT), False)):
            self.assertIs(obeys_locks(arms, locks, pose), obeyed)
            self.assertIs(obeys_locks(arms, [list(lock) for lock in locks], [list(way) for way in pose]), obeyed)

    def test_locked_by_hand(self):
        arms = lamp()
        for locks, pose, locked in ((((0, 1, 0),), (SLANT, LEFT), (UP, LEFT)), ((), (SLANT, LEFT), (SLANT, LEFT)),
                                    (((1, 2, 2),), (SLANT, LEFT), (SLANT, (q("-4/5"), q("3/5")))), (((0, 2, 1), (1, 2, 1)), (SLANT, SLANT), (UP, LEFT)),
                                    (((1, 2, 1),), [list(RIGHT), list(LEFT)], (RIGHT, UP))):
            self.same(locked_pose(arms, locks, pose), locked)

    def test_drawn(self):
        draws = Draws("locked poses")
        count = {True: 0, False: 0}
        for _ in range(60):
            arms = draws.arms()
            locks = drawn_locks(draws, arms.letters)
            pose = draws.pose(arms)
            locked = locked_pose(arms, locks, pose)
            self.same(check_pose(arms, locked), locked)
            self.assertTrue(obeys_locks(arms, locks, locked))
            self.same(locked_pose(arms, locks, locked), locked)
            for letter, (leader, _) in enumerate(leaders_of(arms, locks)):
                if letter and letter == leader:
                    self.same(locked[letter - 1], pose[letter - 1])
            for other in draws.random.sample(list(quarter_poses(arms)), 4):
                obeyed = all(((UP,) + other)[second] == turned_quarters(((UP,) + other)[first], turn) for first, second, turn in locks)
                self.assertIs(obeys_locks(arms, locks, other), obeyed)
                count[obeyed] += 1
        self.assertTrue(all(many > 20 for many in count.values()), count)


if __name__ == "__main__":
    unittest.main()
