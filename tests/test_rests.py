"""rests.py [8.10] to [8.12]."""
import math
import unittest
from fractions import Fraction

from stillarms.couplings import couplings_of, pairs_of
from stillarms.directions import DOWN, LEFT, RIGHT, UP, direction_by
from stillarms.errors import BadPose, TooMixed
from stillarms.leastwork import Lowest, blocks_of, least_value, least_work, lowest_of
from stillarms.poses import check_pose, flat_poses, up_pose
from stillarms.ratios import ONE, ZERO
from stillarms.rests import Pushed, flat_rests, lowest_pose, overall_fault, overall_of, rest_fault, rest_of
from stillarms.rigs import Rig
from stillarms.squares import Even, Falls, Firm
from stillarms.works import pushes_at, rests_in, work_at
from tests.cases import ODD_THINGS, Case, Draws, balanced, frac, fracs, free, lamp, place, q, qs, rig_with
from tests.test_leastwork import LowestCase, drawn_table
from tests.test_squares import grid_of, value_at

SLANT = (q("4/5"), q("-3/5"))
OTHER_SLANT = (q("-4/5"), q("-3/5"))
BAD_POSES = ((0, None), (0, 5), (0, "11"), (0, ()), (1, (UP,)), (2, (UP, UP, UP)), (0, (None, None)), (1, (UP, (1, 0))), (0, {}))


def rig_of_table(couplings):
    """A rig with these couplings."""
    named = {f"c{one}{other}": Fraction(*number) for (one, other), number in zip(pairs_of(couplings.letters), couplings.numbers)
             if number != ZERO}
    rig = rig_with(couplings.letters, **named)
    assert couplings_of(rig) == couplings
    return rig


def cosines_in(pose):
    ways = (UP,) + tuple(pose)
    return {(one, other): frac(ways[one][0]) * frac(ways[other][0]) + frac(ways[one][1]) * frac(ways[other][1])
            for one, other in pairs_of(len(pose))}


def near_grid(rig, pose):
    """The grid of [8.10]."""
    couplings, letters = couplings_of(rig), rig.arms.letters
    bent = {}
    for pair, cosine in cosines_in(pose).items():
        bent[pair] = bent[pair[::-1]] = -frac(couplings.coupling(*pair)) * cosine
    return tuple(tuple(q(-bent[one, other] if one != other else sum(bent[one, its] for its in range(letters + 1) if its != one))
                       for other in range(1, letters + 1)) for one in range(1, letters + 1))


def whole_grid(rig, pose):
    """The grid of [8.11]."""
    couplings, letters, cosines = couplings_of(rig), rig.arms.letters, cosines_in(pose)
    rows = []
    for one in range(letters + 1):
        row = []
        for other in range(letters + 1):
            if one != other:
                row.append(couplings.coupling(one, other))
            else:
                row.append(q(-sum(frac(couplings.coupling(one, its)) * cosines[min(one, its), max(one, its)]
                                  for its in range(letters + 1) if its != one)))
        rows.append(tuple(row))
    return tuple(rows)


def turned_work(rig, pose, turns, small):
    """The work as a float with each letter turned by a small multiple of its number."""
    couplings = couplings_of(rig)
    angles = [0.0] + [math.atan2(-float(frac(x)), float(frac(y))) for x, y in pose]
    for letter, turn in enumerate(turns, start=1):
        angles[letter] += small * float(frac(turn))
    return sum(float(frac(number)) * math.cos(angles[one] - angles[other])
               for (one, other), number in zip(pairs_of(couplings.letters), couplings.numbers))


class RestCase(LowestCase):
    def near(self, rig, pose):
        """What is told of the poses near this one, it being right."""
        told = rest_of(rig, pose)
        self.assertIsNone(rest_fault(rig, pose, told))
        pushes = pushes_at(rig, pose)
        if type(told) is Pushed:
            self.assertEqual([push == ZERO for push in pushes[:told.letter]], [True] * (told.letter - 1) + [False])
            return told
        self.assertTrue(rests_in(rig, pose))
        grid = near_grid(rig, pose)
        if type(told) is not Falls:
            self.same(grid_of(told.squares, len(grid)), grid)
            self.assertEqual(len(told.squares) == len(grid), type(told) is Firm)
        if type(told) is Even:
            self.assertEqual(value_at(grid, told.turns), 0)
        if type(told) is Falls:
            self.assertLess(value_at(grid, told.turns), 0)
            small = 1e-3 / max(1.0, max(abs(float(frac(turn))) for turn in told.turns))
            self.assertLess(turned_work(rig, pose, told.turns, small), turned_work(rig, pose, told.turns, 0))
        return told

    def overall(self, rig, pose):
        """What is told of this pose among all, it being right."""
        told = overall_of(rig, pose)
        self.assertIsNone(overall_fault(rig, pose, told))
        if type(told) is Pushed:
            self.assertTrue(told == rest_of(rig, pose))
            return told
        grid = whole_grid(rig, pose)
        if type(told) is Falls:
            self.assertIs(type(told.turns), tuple)
            self.assertEqual(len(told.turns), rig.arms.letters + 1)
            self.assertLess(value_at(grid, told.turns), 0)
            return told
        self.assertIs(type(told), Lowest)
        couplings, cosines = couplings_of(rig), cosines_in(pose)
        self.same(told.cosines, tuple(pair + (q(cosines[pair]),) for pair in pairs_of(couplings.letters)
                                      if couplings.coupling(*pair) != ZERO))
        self.assertEqual(frac(told.value), sum(frac(couplings.coupling(*pair)) * cosines[pair] for pair in cosines))
        self.squares_fit(couplings, told.value, told.squares)
        return told


class Near(RestCase):
    def test_by_hand(self):
        bare = balanced().bare()
        self.assertIs(type(self.near(bare, (DOWN,))), Firm)
        self.assertIs(type(self.near(bare, (UP,))), Falls)
        self.assertIs(type(self.near(balanced(), (SLANT,))), Even)
        self.same(self.near(bare, (LEFT,)).letter, 1)
        self.same(self.near(bare, [list(SLANT)]).letter, 1)
        self.same(vars(self.near(bare, (DOWN,))), {"squares": ((q(2), (ONE,)),)})

    def test_the_least_letter_is_told(self):
        rig = rig_with(3, c02=1, c03=1)
        self.same(self.near(rig, (LEFT, LEFT, LEFT)).letter, 2)
        self.same(self.near(rig, (LEFT, DOWN, LEFT)).letter, 3)
        self.assertIs(type(self.near(rig, (LEFT, DOWN, DOWN))), Even)
        # Letter 1 pushes letter 2 only.
        self.same(self.near(rig_with(2, c12=1), (UP, LEFT)).letter, 1)

    def test_pose_that_is_firm_but_not_of_least_work(self):
        # A ring whose letters each stand a quarter on: all four cosines are 0.
        rig = rig_with(3, c01=-1, c12=-1, c23=-1, c03=-1)
        self.assertIs(type(self.near(rig, (LEFT, DOWN, RIGHT))), Even)
        self.assertIs(type(self.near(rig, (UP, UP, UP))), Firm)
        self.assertIs(type(self.near(rig, (UP, DOWN, DOWN))), Falls)

    def test_bent(self):
        rig = rig_with(2, c01="6/5", c02="6/5", c12=1)
        self.assertIs(type(self.near(rig, (SLANT, OTHER_SLANT))), Firm)
        self.assertIs(type(self.near(rig, (OTHER_SLANT, SLANT))), Firm)
        self.assertIs(type(self.near(rig, (DOWN, DOWN))), Falls)
        self.assertIs(type(self.near(rig, (UP, DOWN))), Falls)

    def test_drawn(self):
        draws = Draws("poses that rest")
        count = {Pushed: 0, Firm: 0, Even: 0, Falls: 0}
        for _ in range(60):
            couplings = drawn_table(draws)
            rig = rig_of_table(couplings)
            poses = draws.random.sample(list(flat_poses(rig.arms)), 2) + [draws.pose(rig.arms)]
            poses.append(tuple(draws.random.choice((UP, LEFT, DOWN, RIGHT)) for _ in range(couplings.letters)))
            for pose in poses:
                count[type(self.near(rig, pose))] += 1
        self.assertTrue(all(many > 10 for many in count.values()), count)

    def test_judge(self):
        bare = balanced().bare()
        told = {LEFT: Pushed(1), DOWN: Firm(((q(2), (ONE,)),)), UP: Falls((ONE,))}
        for pose in told:
            for other in told:
                self.assertEqual(rest_fault(bare, (pose,), told[other]), None if pose == other else "class")
            for thing in ODD_THINGS + (Even((), (ONE,)), Lowest(ZERO, (), ())):
                self.assertEqual(rest_fault(bare, (pose,), thing), "class")
        for letter in ODD_THINGS + (0, 2, -1, ONE, (1,)):
            self.assertEqual(rest_fault(bare, (LEFT,), Pushed(letter)), "letter")
        self.assertEqual(rest_fault(rig_with(3, c02=1, c03=1), (LEFT, LEFT, LEFT), Pushed(3)), "letter")
        self.assertIsNone(rest_fault(rig_with(3, c02=1, c03=1), (LEFT, LEFT, LEFT), Pushed(2)))
        for squares in ((), ((ONE, (ONE,)),), ((q(2), (ONE,)), (ONE, (ZERO,))), None):
            self.assertEqual(rest_fault(bare, (DOWN,), Firm(squares)), "squares")
        self.assertIsNone(rest_fault(bare, (DOWN,), Firm(((q("1/2"), (q(-2),)),))))
        for turns in ((), (ZERO,), (1,), None, qs("1 1")):
            self.assertEqual(rest_fault(bare, (UP,), Falls(turns)), "turns")
            self.assertEqual(rest_fault(balanced(), (UP,), Even((), turns)), "turns")
        self.assertEqual(rest_fault(balanced(), (UP,), Even(((ONE, (ONE,)),), (ONE,))), "squares")
        self.assertIsNone(rest_fault(balanced(), (UP,), Even((), (q(-7),))))

    def test_errors(self):
        rig = Rig(lamp(), (), ())
        for index, pose in BAD_POSES:
            self.fails(BadPose, {"index": index}, rest_of, rig, pose)
            self.fails(BadPose, {"index": index}, overall_of, rig, pose)
            self.fails(BadPose, {"index": index}, rest_fault, rig, pose, None)
            self.fails(BadPose, {"index": index}, overall_fault, rig, pose, None)


class Overall(RestCase):
    def test_by_hand(self):
        bare = balanced().bare()
        told = self.overall(bare, (DOWN,))
        self.same((told.value, told.cosines), (q(-2), ((0, 1, q(-1)),)))
        self.assertIs(type(self.overall(bare, (UP,))), Falls)
        self.assertIs(type(self.overall(bare, (LEFT,))), Pushed)
        told = self.overall(balanced(), (SLANT,))
        self.same(vars(told), {"value": ZERO, "cosines": (), "squares": ()})

    def test_bent(self):
        rig = rig_with(2, c01="6/5", c02="6/5", c12=1)
        told = self.overall(rig, [list(SLANT), list(OTHER_SLANT)])
        self.same(told.value, least_value(couplings_of(rig)))
        self.same(told.cosines, lowest_of(couplings_of(rig)).cosines)
        for pose in flat_poses(rig.arms):
            self.assertIs(type(self.overall(rig, pose)), Falls)

    def mixed_case(self):
        """A rig with one mixed block, and a pose of its least work."""
        pose = (SLANT, OTHER_SLANT, LEFT)
        # Each row times the directions of the letters is 0.
        rows = (qs("6/5 1 1 0"), qs("-3/5 -1 0 -4/5"))
        ways = (UP,) + pose
        for row in rows:
            for axis in (0, 1):
                total = sum(frac(number) * frac(way[axis]) for number, way in zip(row, ways))
                assert total == 0, (row, total)
        numbers = [q(2 * sum(frac(row[one]) * frac(row[other]) for row in rows)) for one, other in pairs_of(3)]
        rig = rig_with(3, **{f"c{one}{other}": frac(number) for (one, other), number in zip(pairs_of(3), numbers) if number != ZERO})
        return rig, pose

    def test_mixed_block(self):
        rig, pose = self.mixed_case()
        self.assertRaises(TooMixed, least_work, rig)
        self.assertEqual(blocks_of(couplings_of(rig)), ((0, 1, 2, 3),))
        told = self.overall(rig, pose)
        self.assertIs(type(told), Lowest)
        for flat in flat_poses(rig.arms):
            self.assertIs(type(self.overall(rig, flat)), Falls)
        draws = Draws("above a mixed least")
        least = frac(work_at(rig, pose))
        for _ in range(40):
            self.assertGreaterEqual(frac(work_at(rig, draws.pose(rig.arms))), least)
        self.fails(TooMixed, {"letters": (0, 1, 2, 3)}, lowest_pose, rig)

    def test_drawn(self):
        draws = Draws("poses among all")
        count = {Pushed: 0, Lowest: 0, Falls: 0}
        for _ in range(60):
            couplings = drawn_table(draws)
            rig = rig_of_table(couplings)
            for pose in [*draws.random.sample(list(flat_poses(rig.arms)), 2), draws.pose(rig.arms)]:
                told = self.overall(rig, pose)
                count[type(told)] += 1
                try:
                    least = least_work(rig)
                except TooMixed:
                    continue
                if type(told) is not Pushed:
                    self.assertEqual(type(told) is Lowest, work_at(rig, pose) == least)
        self.assertTrue(all(many > 20 for many in count.values()), count)

    def test_judge(self):
        rig = rig_with(2, c01="6/5", c02="6/5", c12=1)
        pose = (SLANT, OTHER_SLANT)
        right = overall_of(rig, pose)
        told = {pose: right, (DOWN, DOWN): overall_of(rig, (DOWN, DOWN)), (LEFT, UP): Pushed(1)}
        for one in told:
            for other in told:
                self.assertEqual(overall_fault(rig, one, told[other]), None if one == other else "class")
            for thing in ODD_THINGS + (Firm(()), Even((), ())):
                self.assertEqual(overall_fault(rig, one, thing), "class")
        for letter in ODD_THINGS + (0, 2):
            self.assertEqual(overall_fault(rig, (LEFT, UP), Pushed(letter)), "letter")

        def changed(**entries):
            return overall_fault(rig, pose, Lowest(**{**vars(right), **entries}))

        self.assertIsNone(changed())
        self.assertEqual([changed(value=q(-9), cosines=None), changed(value=None), changed(cosines=(), squares=None)], ["value", "value", "cosines"])
        self.assertEqual([changed(cosines=right.cosines[:2] + ((True, 2, right.cosines[2][2]),)), changed(squares=())], ["cosines", "squares"])
        self.assertEqual(changed(squares=tuple((q(2 * frac(amount)), row) for amount, row in right.squares)), "squares")
        for turns in ((), None, qs("1 1"), qs("0 0 0"), (1, 1, 1), tuple(overall_of(rig, (DOWN, DOWN)).turns) + (ZERO,)):
            self.assertEqual(overall_fault(rig, (DOWN, DOWN), Falls(turns)), "turns")


class Flat(RestCase):
    def test_by_hand(self):
        self.same(list(flat_rests(balanced().bare())), [((UP,), q(2), "falls"), ((DOWN,), q(-2), "firm")])
        self.same(list(flat_rests(balanced())), [((UP,), q("17/4"), "even"), ((DOWN,), q("17/4"), "even")])
        rig = rig_with(2, c02=-3)
        offset = frac(work_at(rig, (UP, UP))) + 3
        self.same(list(flat_rests(rig)), [((UP, UP), q(offset - 3), "even"), ((UP, DOWN), q(offset + 3), "falls"),
                                          ((DOWN, UP), q(offset - 3), "even"), ((DOWN, DOWN), q(offset + 3), "falls")])

    def test_drawn(self):
        draws = Draws("flat rests")
        words = {Firm: "firm", Even: "even", Falls: "falls"}
        count = {"firm": 0, "even": 0, "falls": 0}
        for _ in range(40):
            rig = rig_of_table(drawn_table(draws)) if draws.random.random() < 0.7 else draws.rig()
            rows = list(flat_rests(rig))
            self.same([row[0] for row in rows], list(flat_poses(rig.arms)))
            try:
                least = least_work(rig)
            except TooMixed:
                least = None
            for pose, work, word in rows:
                count[word] += 1
                self.same(work, work_at(rig, pose))
                self.assertEqual(word, words[type(rest_of(rig, pose))])
                if least is not None:
                    self.assertEqual(word != "falls", work == least)
            if any(row[2] == "firm" for row in rows) and least is not None:
                self.assertEqual(len([row for row in rows if row[1] == least]), 1)
        self.assertTrue(all(many > 10 for many in count.values()), count)


class LowestPoses(RestCase):
    def judged(self, rig):
        """Whether there is such a pose, it being right."""
        pose = lowest_pose(rig)
        if pose is None:
            return False
        self.same(check_pose(rig.arms, pose), pose)
        self.same(work_at(rig, pose), least_work(rig))
        self.assertIs(type(self.overall(rig, pose)), Lowest)
        return True

    def test_by_hand(self):
        self.same(lowest_pose(balanced().bare()), (DOWN,))
        self.assertTrue(self.judged(balanced()))
        self.assertTrue(self.judged(Rig(free(4), (), ())))
        self.assertFalse(self.judged(rig_with(2, c01=1, c02=1, c12=1)))
        self.assertTrue(self.judged(rig_with(2, c01="6/5", c02="6/5", c12=1)))
        self.assertIn(lowest_pose(rig_with(2, c01="6/5", c02="6/5", c12=1)), ((SLANT, OTHER_SLANT), (OTHER_SLANT, SLANT)))
        # Blocks that are joined only behind others, and one that is joined to none.
        self.assertTrue(self.judged(rig_with(3, c03=1, c12=1, c23=-1)))
        self.assertTrue(self.judged(rig_with(4, c04="-1", c12=1, c23=-1)))
        self.assertTrue(self.judged(rig_with(4, c03=1, c12=-1, c24=1, c34=1)))
        self.assertTrue(self.judged(rig_with(3, c12="6/5", c13="6/5", c23=1)))
        self.assertFalse(self.judged(rig_with(3, c12=1, c13=1, c23=1)))

    def test_two_bent_blocks(self):
        for first in ((1, 2, 0), (0, 1, 2), (2, 0, 1)):
            for second in ((2, 3, 4), (4, 2, 3), (3, 4, 2)):
                named = {}
                for i, j, k in (first, second):
                    for one, other, number in ((i, j, "6/5"), (i, k, "-6/5"), (j, k, "-1")):
                        named[f"c{min(one, other)}{max(one, other)}"] = number
                self.assertTrue(self.judged(rig_with(4, **named)))
        mixed = {"c01": "6/5", "c02": "6/5", "c12": 1, "c23": 1, "c24": 1, "c34": 1}
        self.assertFalse(self.judged(rig_with(4, **mixed)))

    def test_drawn(self):
        draws = Draws("poses of least work")
        count = {True: 0, False: 0, "mixed": 0}
        for _ in range(120):
            couplings = drawn_table(draws)
            rig = rig_of_table(couplings)
            try:
                lowest = lowest_of(couplings)
            except TooMixed as error:
                self.fails(TooMixed, vars(error), lowest_pose, rig)
                count["mixed"] += 1
                continue
            rooted = all(is_square(1 - frac(cosine) ** 2) for _, _, cosine in lowest.cosines)
            self.assertEqual(self.judged(rig), rooted)
            count[rooted] += 1
        self.assertTrue(all(many > 3 for many in count.values()), count)

    def test_drawn_bent_blocks_with_ratios(self):
        draws = Draws("bent blocks with ratios")
        for _ in range(30):
            ways = [UP, draws.direction(), draws.direction()]
            sines = [cross(ways[1], ways[2]), cross(ways[2], ways[0]), cross(ways[0], ways[1])]
            if 0 in sines:
                continue
            # The three sines times the directions sum to 0.
            named = {f"c{one}{other}": sines[one] * sines[other] for one, other in pairs_of(2)}
            rig = rig_with(2, **named)
            self.assertTrue(self.judged(rig))
            self.assertIs(type(self.overall(rig, tuple(ways[1:]))), Lowest)

    def test_other_rigs(self):
        draws = Draws("least poses of other rigs")
        for _ in range(20):
            rig = draws.rig(draws.arms(draws.random.randint(1, 2)), 3, 2)
            for other in (rig.shifted(draws.ratio()), rig.grown(draws.positive()), rig.renamed(list(range(rig.arms.letters, 0, -1)))):
                self.judged(other)
            for pose in (up_pose(rig.arms), tuple(direction_by(draws.ratio()) for _ in range(rig.arms.letters))):
                self.near(rig, pose)
                self.overall(rig.renamed(list(range(rig.arms.letters, 0, -1))), pose[::-1])

    def test_equality(self):
        self.assertTrue(Pushed(1) == Pushed(1))
        self.unlike_all(Pushed(1), (Pushed(2), 1, None, Falls(1)))


def cross(one, other):
    return fracs(one)[0] * fracs(other)[1] - fracs(one)[1] * fracs(other)[0]


def is_square(number):
    return math.isqrt(number.numerator) ** 2 == number.numerator and math.isqrt(number.denominator) ** 2 == number.denominator


if __name__ == "__main__":
    unittest.main()
