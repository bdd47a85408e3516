"""sameness.py [9.8]."""
import unittest

from stillarms.arms import Arms
from stillarms.brakes import least_brakes
from stillarms.couplings import constant_of, couplings_of
from stillarms.errors import BadPlace, NoTwin, OtherLetters
from stillarms.feels import felt_ratio
from stillarms.poses import place_at
from stillarms.ratios import ONE, ZERO, minus
from stillarms.rigs import Rig
from stillarms.sameness import first_unlike, moved_rig, twins_on
from stillarms.works import pushes_at, work_at
from tests.cases import MAST, ODD_THINGS, Case, Draws, free, lamp, lamp_rig, place, q, tree


def bars(text):
    """Arms from rows (host, mark, letter) of numbers."""
    return Arms([(int(host), q(mark), int(letter)) for host, mark, letter in (row.split() for row in text.split("|"))])


class Twins(Case):
    def test_by_hand(self):
        one = lamp()
        # The bars of letter 2 are 2 along letter 1, and 5 along letter 0 and 1.
        other = bars("-1 0 1|0 2 2|0 1 0|2 5 2|-1 0 0")
        self.same(twins_on(one, other, place(MAST, 3)), ((MAST, q(3)), (4, q(3))))
        self.same(twins_on(one, other, place(0, 2)), ((0, q(2)), (1, ZERO)))
        self.same(twins_on(one, other, place(0, 1)), ((0, ONE), (2, ZERO)))
        self.same(twins_on(one, other, place(0, 0)), ((MAST, ZERO), (0, ZERO), (4, ZERO)))
        self.same(twins_on(one, other, place(1, -7)), ((1, q(-7)),))
        self.same(twins_on(one, other, [1, q(-7)]), ((1, q(-7)),))
        self.same(twins_on(other, one, place(2, 5)), ())
        self.same(twins_on(other, one, place(3, 1)), ())
        self.same(twins_on(other, one, place(4, "-1/2")), ((MAST, q("-1/2")),))
        self.same(twins_on(one, bars("-1 1 1|-1 0 2"), place(0, 3)), ())

    def test_drawn(self):
        draws = Draws("twins")
        count = {}
        for _ in range(120):
            letters = draws.random.randint(1, 3)
            one, other = draws.arms(letters), draws.arms(letters)
            if draws.random.random() < 0.6 and len(one) < 6:
                other = one.with_bar(draws.random.randint(MAST, len(one) - 1), draws.ratio(-1, 1), draws.random.randint(0, letters))
            where = (draws.random.randint(MAST, len(one) - 1), q(draws.random.randint(-1, 1)))
            twins = twins_on(one, other, where)
            self.assertIs(type(twins), tuple)
            self.assertEqual([bar for bar, _ in twins], sorted({bar for bar, _ in twins}))
            count[min(len(twins), 3)] = count.get(min(len(twins), 3), 0) + 1
            pose = draws.pose(one)
            for twin in twins:
                self.assertEqual(place_at(one, pose, where), place_at(other, pose, twin))
            # What is no twin has no mark of this row: the two marks 0 and 1 tell the rows of all.
            for bar in range(MAST, len(other)):
                if bar not in [twin for twin, _ in twins]:
                    start, row = other.row_of((bar, ZERO)), one.row_of(where)
                    along = 0 if bar == MAST else other.bars[bar][2]
                    self.assertTrue(any(left != right for at, (left, right) in enumerate(zip(start, row)) if at != along))
        self.assertEqual(sorted(count), [0, 1, 2, 3])

    def test_errors(self):
        self.fails(OtherLetters, {}, twins_on, lamp(), free(1), None)
        self.fails(OtherLetters, {}, first_unlike, lamp(), tree())
        self.fails(OtherLetters, {}, moved_rig, lamp_rig(), free(3))
        for thing in ODD_THINGS + ((2, ONE), (0, 1), (True, ONE)):
            self.fails(BadPlace, {}, twins_on, lamp(), free(2), thing)
        # The place is one of the first arms.
        self.fails(BadPlace, {}, twins_on, bars("-1 0 1"), bars("-1 0 1|0 1 1"), place(1, 0))
        self.same(twins_on(bars("-1 0 1|0 1 1"), bars("-1 0 1"), place(1, 0)), ((0, ONE),))


class Unlike(Case):
    def test_by_hand(self):
        arms = lamp()
        for text, told in (
                ("-1 0 1|0 2 2", None),
                # Bars that start elsewhere on the line of a bar of their letter, in any order.
                ("-1 0 1|0 2 2|0 7 1|2 -5 2", None), ("-1 0 2|-1 0 1", ("one", 1)), ("-1 0 1|0 2 1|1 0 2", None),
                # A bar of letter 0 on the mast is the mast.
                ("-1 0 1|0 2 2|-1 7 0", None), ("-1 3 0|0 -3 1|1 2 2", None), ("-1 1 0|-1 0 1|1 2 2|0 4 0", None),
                # A bar of letter 0 elsewhere is not.
                ("-1 0 1|0 2 2|0 2 0", ("other", 2)), ("-1 0 1|0 2 2|1 2 1", ("other", 2)),
                ("-1 1 1|0 2 2", ("one", 0)), ("-1 0 1|0 3 2", ("one", 1)), ("-1 0 1|0 2 2|0 3 2", ("other", 2)),
                ("-1 1 1|-1 0 1|1 2 2|1 9 2", ("other", 0))):
            self.same(first_unlike(arms, bars(text)), told)
            back = None if told is None else first_unlike(bars(text), arms)
            if told is not None and told[0] == "other":
                self.same(back, ("one", told[1]))
            self.same(first_unlike(bars(text), arms) is None, told is None)

    def test_bars_of_letter_0_off_the_mast(self):
        one = bars("-1 0 1|0 2 0|1 3 1")
        self.same(first_unlike(one, bars("-1 0 1|0 2 0|1 3 1")), None)
        self.same(first_unlike(one, bars("-1 0 1|0 2 0|1 -4 0|2 7 1")), None)
        self.same(first_unlike(one, bars("-1 0 1|0 1 0|1 3 1")), ("one", 1))
        self.same(first_unlike(one, bars("-1 0 1|0 2 0|1 2 1")), ("one", 2))
        self.same(first_unlike(bars("-1 0 1"), bars("-1 0 1|0 0 0")), None)
        self.same(first_unlike(bars("-1 0 1|0 0 0"), bars("-1 0 1")), None)

    def test_drawn(self):
        draws = Draws("unlike arms")
        count = {True: 0, False: 0}
        for _ in range(80):
            one = draws.arms(draws.random.randint(1, 2))
            other = draws.arms(one.letters)
            if draws.random.random() < 0.7:
                # A further bar on the line of one that is there, or on the mast.
                number = draws.random.randrange(len(one))
                other = one if len(one) == 6 else one.with_bar(number, draws.ratio(), one.bars[number][2])
            told = first_unlike(one, other)
            count[told is None] += 1
            self.assertIsNone(first_unlike(one, one))
            if told is None:
                for bar in range(len(one)):
                    where = (bar, draws.ratio())
                    self.assertNotEqual(twins_on(one, other, where), ())
                for bar in range(len(other)):
                    self.assertNotEqual(twins_on(other, one, (bar, draws.ratio())), ())
                continue
            arms, others = (one, other) if told[0] == "one" else (other, one)
            # At most one of many marks of such a bar has a twin on each other bar.
            lonely = [mark for mark in range(-20, 21) if twins_on(arms, others, (told[1], q(mark))) == ()]
            self.assertGreater(len(lonely), 20)
        self.assertTrue(all(many > 10 for many in count.values()), count)


class Moved(Case):
    def test_by_hand(self):
        other = bars("-1 3 0|0 -3 1|1 2 2|1 5 1")
        told = moved_rig(lamp_rig(), other)
        self.assertIs(type(told), Rig)
        self.assertTrue(told.arms == other)
        self.same(told.weights, ((place(2, 3), q(2)), (place(1, 1), q("1/2"))))
        self.same(told.springs, ((place(MAST, 4), place(1, 1), q("1/2")), (place(MAST, 1), place(2, 1), q(3))))
        # The first twin is the one on the least bar.
        rig = Rig(lamp(), ((place(0, 2), ONE), (place(0, 0), ONE)), ())
        self.same(moved_rig(rig, lamp()).weights, ((place(0, 2), ONE), (place(MAST, 0), ONE)))
        self.same(moved_rig(Rig(lamp(), ((place(1, 0), ONE),), ()), lamp()).weights, ((place(0, 2), ONE),))

    def test_no_twin(self):
        other = bars("-1 0 1|0 3 2")
        self.fails(NoTwin, {"place": place(1, 3)}, moved_rig, lamp_rig(), other)
        rig = Rig(lamp(), ((place(0, 1), ONE), (place(1, 5), ONE), (place(1, 6), ONE)), ((place(1, 7), place(1, 8), ONE),))
        self.fails(NoTwin, {"place": place(1, 5)}, moved_rig, rig, other)
        rig = Rig(lamp(), ((place(0, 1), ONE),), ((place(0, 7), place(1, 8), ONE), (place(1, 9), place(1, 8), ONE)))
        self.fails(NoTwin, {"place": place(1, 8)}, moved_rig, rig, other)
        rig = Rig(lamp(), (), ((place(1, 9), place(1, 8), ONE),))
        self.fails(NoTwin, {"place": place(1, 9)}, moved_rig, rig, other)

    def test_drawn(self):
        draws = Draws("moved rigs")
        for _ in range(60):
            rig = draws.rig(draws.arms(draws.random.randint(1, 3)))
            # The same bars from elsewhere on their lines, hung up on a further bar of letter 0.
            step = draws.ratio()
            other = Arms([(MAST, step, 0)] + [(host + 1 if host >= 0 else 0, minus(mark, step) if host < 0 else mark, letter)
                                              for host, mark, letter in rig.arms.bars]) if len(rig.arms) < 6 else rig.arms
            self.assertIsNone(first_unlike(rig.arms, other))
            moved = moved_rig(rig, other)
            self.assertTrue(moved.arms == other)
            for _ in range(3):
                pose = draws.pose(rig.arms)
                self.same(work_at(moved, pose), work_at(rig, pose))
                self.same(pushes_at(moved, pose), pushes_at(rig, pose))
            self.assertTrue(couplings_of(moved) == couplings_of(rig))
            self.same(constant_of(moved), constant_of(rig))
            self.same(least_brakes(moved), least_brakes(rig))
            self.same(felt_ratio(moved, rig), ZERO if couplings_of(rig).is_zero() else ONE)


if __name__ == "__main__":
    unittest.main()
