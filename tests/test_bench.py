"""bench.py [11.7]."""
import unittest

from stillarms.bench import Bench
from stillarms.changes import apply_change, apply_changes
from stillarms.errors import BadChange, BadWish, NothingDone
from stillarms.ratios import ONE
from stillarms.rigs import Rig
from stillarms.wishes import holds_all
from tests.cases import MAST, ODD_THINGS, Case, Draws, balanced, free, lamp, lamp_rig, place, q, qs
from tests.test_changes import BAD_FORMS, CUT, DROP, SPRING, WEIGHT
from tests.test_wishes import BAD_WISHES, STILL


class BenchCase(Case):
    def stands(self, bench, rig, made):
        """The bench has this rig and these changes."""
        self.assertTrue(bench.rig == rig)
        self.same(bench.made, tuple(made))
        self.assertEqual(len(bench), len(made))


class Changing(BenchCase):
    def test_new(self):
        rig = lamp_rig()
        bench = Bench(rig)
        self.stands(bench, lamp_rig(), ())
        self.assertIs(type(bench.rig), Rig)
        self.assertEqual([told == rig for told in bench.stages()], [True])
        self.fails(NothingDone, {}, bench.undo)
        self.stands(bench, lamp_rig(), ())

    def test_make_and_undo(self):
        bench = Bench(lamp_rig())
        made, rigs = [], [lamp_rig()]
        for change in (WEIGHT, SPRING, DROP, CUT, ("drop", 1), ("cut", 0)):
            self.assertIsNone(bench.make(change))
            made.append(change)
            rigs.append(apply_change(rigs[-1], change))
            self.stands(bench, rigs[-1], made)
            self.assertEqual(list(bench.stages()) == rigs, True)
        while made:
            self.same(bench.undo(), made.pop())
            rigs.pop()
            self.stands(bench, rigs[-1], made)
            self.assertEqual(list(bench.stages()) == rigs, True)
        self.fails(NothingDone, {}, bench.undo)
        # What was taken back is gone; other changes can be made.
        bench.make(CUT)
        bench.undo()
        bench.make(DROP)
        self.stands(bench, apply_change(lamp_rig(), DROP), (DROP,))

    def test_changes_are_told_as_tuples(self):
        bench = Bench(lamp_rig())
        given = [["weight", [0, ONE], q(3)], ["spring", [MAST, q(4)], [1, ONE], q("1/2")], ["drop", 0], ["cut", 1]]
        for change in given:
            bench.make(change)
        self.same(bench.made, (WEIGHT, SPRING, DROP, CUT))
        given[0][1][0] = 1
        given[2][1] = 5
        self.same(bench.made, (WEIGHT, SPRING, DROP, CUT))
        self.same([bench.undo() for _ in range(4)], [CUT, DROP, SPRING, WEIGHT])

    def test_what_is_refused_changes_nothing(self):
        bench = Bench(lamp_rig())
        bench.make(WEIGHT)
        rig = apply_change(lamp_rig(), WEIGHT)
        for what, change in BAD_FORMS + (("absent", ("drop", 3)), ("absent", ("cut", 2))):
            self.fails(BadChange, {"index": 0, "what": what}, bench.make, change)
            self.stands(bench, rig, (WEIGHT,))
        full = Bench(Rig(lamp(), [(place(0, 1), ONE)] * 8, ()))
        self.fails(BadChange, {"index": 0, "what": "many"}, full.make, WEIGHT)
        self.stands(full, Rig(lamp(), [(place(0, 1), ONE)] * 8, ()), ())

    def test_many_changes(self):
        bench = Bench(lamp_rig())
        for _ in range(20):
            bench.make(WEIGHT)
            bench.make(DROP)
        self.assertEqual((len(bench), len(bench.made), len(list(bench.stages()))), (40, 40, 41))

    def test_nothing_handed_out_is_changed_later(self):
        rig = lamp_rig()
        bench = Bench(rig)
        before, made = bench.rig, bench.made
        stages = list(bench.stages())
        bench.make(WEIGHT)
        self.assertTrue(rig == lamp_rig() and before == lamp_rig() and stages == [lamp_rig()])
        self.same(made, ())
        later = bench.made
        bench.undo()
        self.same(later, (WEIGHT,))

    def test_stages_while_the_bench_changes(self):
        bench = Bench(lamp_rig())
        bench.make(WEIGHT)
        seen = 0
        for _ in bench.stages():
            seen += 1
            bench.make(DROP if seen == 1 else WEIGHT)
        self.assertEqual((seen, len(bench)), (2, 3))


class Asking(BenchCase):
    def test_in(self):
        bench = Bench(lamp_rig())
        for where, there in ((place(1, 3), True), (place(0, 1), True), (place(MAST, 4), True), (place(MAST, 1), True), (place(1, 1), True), (place(1, 2), False),
                             (place(0, 3), False), (place(MAST, 0), False), ([0, ONE], False), ((False, ONE), False), ((True, q(3)), False), ((True, ONE), False),
                             ((0, [1, 1]), False), ((0, 1), False), ((0, (1, True)), False), ((0.0, ONE), False), ((0, ONE, ONE), False), ((7, ONE), False),
                             ("0:1", False), (None, False), (0, False)):
            self.assertIs(where in bench, there, where)
        bench.make(("cut", 0))
        self.assertEqual((place(MAST, 4) in bench, place(0, 1) in bench), (False, True))
        bench.make(("drop", 1))
        self.assertFalse(place(0, 1) in bench)
        bench.make(WEIGHT)
        self.assertTrue(place(0, 1) in bench)
        bench.undo()
        self.assertFalse(place(0, 1) in bench)
        self.assertFalse(place(0, 1) in Bench(Rig(lamp(), (), ())))

    def test_holds(self):
        bench = Bench(balanced())
        self.assertIs(bench.holds(STILL), True)
        self.assertIs(bench.holds(), True)
        self.assertIs(bench.holds(STILL, ["feels", place(0, 1), ONE]), False)
        bench.make(("cut", 0))
        self.assertIs(bench.holds(STILL), False)
        self.assertIs(bench.holds(("held", qs("2")), ("least", q(-2)), ("feels", place(0, 2), ONE), ("still locked", ((0, 1, 3),))), True)
        for count in (5, 9):
            self.fails(BadWish, {"index": 0, "what": "many"}, bench.holds, *[STILL] * count)
        two = Bench(lamp_rig())
        for wish in BAD_WISHES:
            self.fails(BadWish, {"index": 1, "what": "wish"}, two.holds, STILL, wish)

    def test_trial(self):
        bench = Bench(balanced())
        self.assertIs(bench.trial(), True)
        self.assertIs(bench.trial(("cut", 0)), False)
        self.assertIs(bench.trial(("cut", 0), ["drop", 0]), True)
        self.assertIs(bench.trial(("cut", 0), wishes=(("held", qs("2")),)), True)
        self.assertIs(bench.trial(("cut", 0), wishes=[("held", qs("1"))]), False)
        self.assertIs(bench.trial(WEIGHT, DROP, wishes=()), True)
        self.stands(bench, balanced(), ())
        bench.make(("cut", 0))
        self.assertIs(bench.trial(), False)
        self.assertIs(bench.trial(("spring", place(MAST, 4), place(0, 1), q("1/2"))), True)
        self.stands(bench, balanced().bare(), (("cut", 0),))

    def test_trial_of_wrong_things(self):
        bench = Bench(lamp_rig())
        bench.make(WEIGHT)
        rig = apply_change(lamp_rig(), WEIGHT)
        for what, change in BAD_FORMS:
            self.fails(BadChange, {"index": 1, "what": what}, bench.trial, DROP, change, wishes=None)
            self.stands(bench, rig, (WEIGHT,))
        self.fails(BadChange, {"index": 3, "what": "absent"}, bench.trial, DROP, DROP, DROP, DROP)
        self.fails(BadChange, {"index": 0, "what": "pool"}, bench.trial, *[DROP] * 9)
        self.fails(BadChange, {"index": 5, "what": "many"}, bench.trial, *[WEIGHT] * 8)
        for wish in BAD_WISHES:
            self.fails(BadWish, {"index": 0, "what": "wish"}, bench.trial, DROP, wishes=(wish,))
        for wishes in ODD_THINGS + ((STILL,) * 5,):
            self.fails(BadWish, {"index": 0, "what": "many"}, bench.trial, wishes=wishes)
        self.stands(bench, rig, (WEIGHT,))

    def test_drawn(self):
        draws = Draws("benches")
        for _ in range(20):
            arms = free(draws.random.randint(1, 2))
            rig = draws.rig(arms, 3, 3)
            bench, rigs, made = Bench(rig), [rig], []
            for _ in range(25):
                change = draws.random.choice((("weight", draws.small_place(arms), ONE), ("spring", draws.small_place(arms), draws.small_place(arms), ONE),
                                              ("drop", draws.random.randint(0, 3)), ("cut", draws.random.randint(0, 3)), None))
                if change is None:
                    if made:
                        self.same(bench.undo(), made.pop())
                        rigs.pop()
                    continue
                wishes = (("held", (q(4),) * arms.letters), ("least", q(-9)))
                try:
                    behind = apply_changes(rigs[-1], [change])
                except BadChange as error:
                    self.fails(BadChange, vars(error), bench.trial, change)
                    self.fails(BadChange, vars(error), bench.make, change)
                else:
                    self.assertIs(bench.trial(change, wishes=wishes), holds_all(behind, wishes))
                    bench.make(change)
                    made.append(change)
                    rigs.append(behind)
                    self.assertIs(bench.holds(*wishes), holds_all(behind, wishes))
                self.stands(bench, rigs[-1], made)
                self.assertTrue(list(bench.stages()) == rigs)
                here = draws.small_place(arms)
                ends = [where for where, _ in rigs[-1].weights] + [end for spring in rigs[-1].springs for end in spring[:2]]
                self.assertIs(here in bench, here in ends)


if __name__ == "__main__":
    unittest.main()
