"""The whole program: equality of all classes [0.8], all errors [0.7], nothing changed or kept [0.6]."""
import copy
import unittest

from stillarms import (adjusters, alike, allheld, arms, armtext, bench, brakes, changes, counters, couplings, directions, ends, errors, feels, fewest, fitted, holding,
                       leastwork, locks, lockstill, losses, mends, owners, pins, pooljudge, pools, poses, ratios, reach, rests, rigs, rigtext, sameness, signs,
                       slidejudges, slides, spreads, squares, stillness, stretches, tasks, unknown, widest, wishes, works, worktables)
from stillarms.directions import DOWN, LEFT, UP
from stillarms.ratios import ONE, ZERO
from tests.cases import MAST, Case, balanced, free, lamp, lamp_rig, place, q, qs, rig_with, tree
from tests.test_unknown import example

TWO = q(2)


def pairs():
    """For each class two objects of it that are unlike; asked anew, they are equal to those asked before."""
    table, other = couplings.zero_couplings(1), couplings.couplings_by(1, (ONE,))
    slip = brakes.Slips(1, (LEFT,), ONE)
    paper = adjusters.NoSetting(table, None)
    return [
        (arms.Arms(((MAST, ZERO, 1),)), arms.Arms(((MAST, ONE, 1),))), (rigs.Rig(free(1)), rigs.Rig(free(1), ((place(0, 1), ONE),))),
        (works.Sway(ZERO, ZERO, ZERO), works.Sway(ONE, ZERO, ZERO)), (alike.Copying(ONE, ZERO), alike.Copying(ONE, ONE)),
        (reach.Belt(ZERO, ZERO, ONE), reach.Belt(ZERO, ONE, ONE)), (table, other), (signs.Signs((1, 1)), signs.Signs((1, -1))),
        (signs.OddRing((0, 1, 2)), signs.OddRing((1, 0, 2))), (stillness.Push(1, (UP,), ONE), stillness.Push(2, (UP,), ONE)),
        (stillness.Rise(1, (UP,), (DOWN,), ONE), stillness.Rise(1, (DOWN,), (DOWN,), ONE)), (worktables.WorkSplit(ZERO, table), worktables.WorkSplit(ZERO, other)),
        (worktables.Tangled((1, 2, 3)), worktables.Tangled((1, 2, 4))), (worktables.OneSpring(ONE, (ONE, ONE)), worktables.OneSpring(TWO, (ONE, ONE))),
        (slip, brakes.Slips(1, (LEFT,), TWO)), (stretches.Stretched(((MAST, ZERO, 1),)), stretches.Stretched(((MAST, (ZERO, ONE), 1),))),
        (allheld.Stirred((0,), None), allheld.Stirred((1,), None)), (allheld.Breach((), slip), allheld.Breach((), None)), (losses.Lost((), slip), losses.Lost((0,), slip)),
        (tasks.Solution((ONE,)), tasks.Solution((TWO,))), (tasks.Against((ONE,)), tasks.Against((TWO,))), (tasks.Least(ONE, (), ()), tasks.Least(TWO, (), ())),
        (tasks.Endless((), ()), tasks.Endless((), (ONE,))), (pools.Strengths((ONE,)), pools.Strengths((TWO,))), (pools.NoStrengths(table), pools.NoStrengths(other)),
        (pools.LeastStrengths(ONE, (), table), pools.LeastStrengths(ONE, (), other)), (owners.Owners((0,)), owners.Owners((1,))),
        (owners.Short((1,), ()), owners.Short((1,), (0,))), (ends.Ends(ZERO, None), ends.Ends(ZERO, ONE)),
        (counters.Counterweights((ONE,)), counters.Counterweights((TWO,))), (counters.NoCounterweights(table), counters.NoCounterweights(other)),
        (counters.LeastCounterweights(ONE, (), table), counters.LeastCounterweights(ONE, (), other)), (slides.Parts(table, (), ()), slides.Parts(other, (), ())),
        (adjusters.Settings((ONE,)), adjusters.Settings((TWO,))), (paper, adjusters.NoSetting(other, None)), (adjusters.Rule((), ((),), ((),)), adjusters.Rule((), (), ((),))),
        (adjusters.NoRule((), paper), adjusters.NoRule((ONE,), paper)), (widest.Widest(ZERO, None, None, None), widest.Widest(ZERO, ONE, None, None)),
        (holding.NoFixed((paper,)), holding.NoFixed(())), (holding.LeastPush(ONE, (), table, (ONE,)), holding.LeastPush(ONE, (), other, (ONE,))),
        (holding.WorstPush((), None), holding.WorstPush((ONE,), None)), (squares.Firm(()), squares.Firm((1,))), (squares.Even((), (ONE,)), squares.Even((), (TWO,))),
        (squares.Falls((ONE,)), squares.Falls((TWO,))), (leastwork.Lowest(ZERO, (), ()), leastwork.Lowest(ONE, (), ())), (rests.Pushed(1), rests.Pushed(2)),
        (lockstill.Uneven((UP,), ONE), lockstill.Uneven((UP,), TWO)), (spreads.Spread((ONE,)), spreads.Spread((TWO,))), (spreads.NoSpread((ONE,)), spreads.NoSpread((TWO,))),
        (example(), unknown.Unknowns(free(1), (place(0, 2),), ())), (fitted.Fits((ONE,)), fitted.Fits((TWO,))), (fitted.Clash((), (ONE,)), fitted.Clash(((0,),), (ONE,))),
        (fitted.Sure(), None), (fitted.Never(), None), (fitted.Both((ONE,), (ONE,)), fitted.Both((ONE,), (TWO,))), (mends.Mend((), lamp_rig()), mends.Mend((), balanced()))]


class Equality(Case):
    def test_all_classes(self):
        first, again = pairs(), pairs()
        self.assertEqual(len({type(one) for one, _ in first}), len(first))
        for at, (one, other) in enumerate(first):
            with self.subTest(type(one).__name__):
                self.assertTrue(one == again[at][0] and not one != again[at][0])
                self.unlike_all(one, (other, None, 0, (), vars(one), object()))
                if other is not None:
                    self.assertTrue(other == again[at][1])
                for place_of_other, (thing, _) in enumerate(first):
                    self.assertEqual(one == thing, at == place_of_other)
                twin = type("Twin", (), {})()
                vars(twin).update(vars(one))
                self.unlike_all(one, (twin,))

    def test_benches_are_not_compared(self):
        made = bench.Bench(balanced())
        self.assertTrue(made == made)
        self.assertFalse(made == bench.Bench(balanced()))

    def test_no_class_is_left_out(self):
        told = {type(one) for one, _ in pairs()}
        for module in (adjusters, alike, allheld, arms, brakes, counters, couplings, ends, fitted, holding, leastwork, lockstill, losses, mends, owners, pools, reach, rests,
                       rigs, signs, slides, spreads, squares, stillness, stretches, tasks, unknown, widest, works, worktables):
            for thing in vars(module).values():
                if isinstance(thing, type) and thing.__module__ == module.__name__:
                    self.assertIn(thing, told)


def raised():
    """For each error its attributes and a call that raises it."""
    mast, bar, rig = place(MAST, 1), place(0, 1), lamp_rig()
    made = bench.Bench(rig)
    ring = rig_with(3, c01=-1, c12=-1, c23=-1, c03=1)
    return {
        "BadRatio": ({"what": "bottom"}, ratios.make_ratio, 1, 0), "BadPlace": ({}, arms.check_place, lamp(), None), "BadArms": ({"index": 1, "what": "host"}, arms.Arms, ((MAST, ZERO, 1), (1, ZERO, 1))),
        "NoBar": ({"number": 2}, lamp().hinge_row, 2), "BadSize": ({}, lamp().grown, ZERO), "BadOrder": ({}, lamp().renamed, (1, 1)),
        "BadRig": ({"index": 0, "what": "amount"}, rigs.Rig, lamp(), ((bar, ZERO),)), "NoSuch": ({"number": 9}, rig.without_weight, 9), "OtherArms": ({}, rig.joined, balanced()),
        "BadText": ({"number": 1, "what": "parts"}, armtext.arms_of, "mast 0 1\n"), "BadSpot": ({}, directions.check_spot, None), "BadDirection": ({}, directions.check_direction, (ONE, ONE)),
        "BadHalf": ({}, directions.direction_by, 1), "BadQuarters": ({}, directions.quarter_direction, ONE), "BadPose": ({"index": 1}, poses.check_pose, lamp(), (UP, 0)),
        "NoLetter": ({"letter": 3}, poses.check_letter, lamp(), 3), "BadLength": ({}, reach.beyond_pose, lamp(), mast, bar, q(-1)), "BadCouplings": ({"index": 0, "what": "number"}, couplings.Couplings, ((1,),)),
        "NoPair": ({"one": 1, "other": 1}, couplings.zero_couplings(2).coupling, 1, 1), "OtherLetters": ({}, feels.felt_ratio, rig, balanced()), "BadLot": ({}, stillness.lot_push, rig, ()),
        "BadWorks": ({}, worktables.split_works, ()), "BadBrakes": ({"index": 1}, brakes.is_held, rig, (ONE, 1)), "BadPins": ({"index": 0}, pins.check_pins, lamp(), (None,)),
        "BadStretch": ({"index": 0, "what": "order"}, stretches.Stretched, ((MAST, (ONE, ZERO), 1),)), "BadNumbers": ({"index": 0}, stretches.rig_at, stretches.Stretched(((MAST, ZERO, 1),)), (ONE,)),
        "BadChoice": ({"index": 0}, stretches.rig_by, stretches.Stretched(((MAST, ZERO, 1),)), (0,)), "BadShares": ({"index": 0}, losses.weakened, rig, (TWO, ONE)),
        "BadCount": ({"count": -1}, losses.least_brakes_without, rig, -1), "BadTask": ({"index": 0, "what": "target"}, tasks.solve_task, (), ()),
        "BadPool": ({"index": 0, "what": "span"}, pools.stills, rig, (bar,)), "BadStrengths": ({"index": 0}, pooljudge.with_strengths, rig, (), (ONE,)),
        "BadPlaces": ({"index": 1, "what": "place"}, counters.counterweights, rig, (bar, None)), "BadCounterweights": ({"index": 0}, counters.with_counterweights, rig, (bar,), (q(-1),)),
        "BadLoads": ({"index": 0, "what": "weight"}, slides.check_loads, rig, ((2, ZERO, ONE),)), "BadSlide": ({"index": 0, "what": "row"}, widest.widest_load, rig, 0, (None,)),
        "BadAmounts": ({}, slides.check_amounts, (), (ONE,)), "BadSettings": ({}, slides.check_settings, (), (ONE,)), "BadGrid": ({"what": "even"}, squares.split_grid, (qs("0 1"), qs("2 0"))),
        "TooMixed": ({"letters": (0, 1, 2, 3)}, leastwork.least_work, ring), "BadLock": ({"index": 0, "what": "letters"}, locks.leaders_of, lamp(), ((1, 1, 0),)),
        "BadSpread": ({"index": 0, "what": "many"}, spreads.spread_weight, lamp(), bar, ()), "NoTwin": ({"place": place(1, 3)}, sameness.moved_rig, rig, arms.Arms(((MAST, ZERO, 1), (0, ONE, 2)))),
        "BadUnknowns": ({"index": 0, "what": "many"}, unknown.Unknowns, lamp(), (), ()), "BadGuess": ({"index": 1}, unknown.rig_with, example(), (ONE,)),
        "BadFact": ({"index": 0, "what": "fact"}, unknown.check_fact, example(), ()), "BadNumber": ({"number": 2}, fitted.share_range, example(), (), 2, 0),
        "Clashing": ({}, fitted.is_sure, example(), (("more", 0, 0),), ("still",)), "BadChange": ({"index": 0, "what": "absent"}, made.make, ("drop", 5)),
        "BadWish": ({"index": 0, "what": "wish"}, wishes.holds_wish, rig, None), "NothingDone": ({}, made.undo)}


class Errors(Case):
    def test_each_is_raised_with_its_attributes(self):
        told = raised()
        self.assertEqual(sorted(list(told) + ["ArmError"]), sorted(name for name, thing in vars(errors).items() if isinstance(thing, type)))
        for name, (attributes, function, *arguments) in told.items():
            with self.subTest(name):
                self.fails(getattr(errors, name), attributes, function, *arguments)
                with self.assertRaises(errors.ArmError):
                    function(*arguments)


def as_lists(thing):
    """The thing with lists for all tuples but ratios."""
    if isinstance(thing, (tuple, list)):
        return thing if ratios.is_ratio(thing) else [as_lists(entry) for entry in thing]
    return thing


LOADS = ((0, ZERO, ONE),)
SLIDES = (("end", 0, 0, ZERO, q(9)), ("strength", 1, ZERO, ONE))
POOL = (("weight", place(0, 1), ONE), ("spring", place(MAST, 1), place(1, 1), ONE), ("drop", 0))
FACTS = (("still",), ("rests", (UP,)))
WISHES = (("held", qs("9 9")), ("rests", (UP, LEFT)), ("still locked", ((0, 1, 1),)))


def asked():
    """Calls with rows of all kinds among their arguments."""
    rig = lamp_rig()
    return [
        (slidejudges.settings_fault, rig, LOADS, SLIDES, (ONE,), adjusters.Settings(qs("1 1"))), (slidejudges.rule_fault, rig, LOADS, SLIDES, adjusters.rule_for(rig, LOADS, SLIDES)),
        (widest.widest_load, rig, 0, SLIDES), (holding.fixed_settings, rig, LOADS, SLIDES), (holding.least_push, rig, LOADS, SLIDES, (ONE,)),
        (holding.worst_push, rig, LOADS, SLIDES), (squares.check_grid, (qs("1 2"), qs("2 1"))), (squares.split_grid, (qs("1 2"), qs("2 1"))), (squares.grid_value, (qs("1 2"), qs("2 1")), qs("1 2")),
        (rests.rest_of, rig, (UP, DOWN)), (rests.overall_of, rig, (UP, DOWN)), (leastwork.square_range, lamp(), place(0, 1), place(1, 1), place(MAST, 1), place(1, 2)),
        (leastwork.never_farther, lamp(), place(0, 1), place(1, 1), place(MAST, 1), place(1, 2)), (locks.check_locks, lamp(), ((0, 1, 1), (1, 2, 3))),
        (locks.leaders_of, lamp(), ((0, 1, 1), (1, 2, 3))), (locks.obeys_locks, lamp(), ((0, 1, 1),), (LEFT, UP)), (locks.locked_pose, lamp(), ((0, 1, 1),), (UP, UP)),
        (lockstill.locked_couplings, rig, ((0, 1, 1),)), (lockstill.still_locked, rig, ((0, 1, 1),)), (feels.felt_weight, rig, place(0, 1)),
        (feels.felt_spring, rig, place(0, 1), place(MAST, 1)), (spreads.spread_weight, lamp(), place(0, 1), (place(0, 3), place(MAST, 1))), (sameness.twins_on, lamp(), lamp(), place(0, 2)),
        (unknown.check_guess, example(), qs("1 2")), (unknown.rig_with, example(), qs("1 2")), (unknown.check_facts, example(), FACTS), (unknown.fact_rows, example(), ("rises", (UP,), (LEFT,))),
        (unknown.holds_fact, example(), qs("1 2"), ("rests", (LEFT,))), (fitted.fit_facts, example(), FACTS), (fitted.fit_fault, example(), FACTS, fitted.Fits(qs("2 1"))),
        (fitted.is_sure, example(), FACTS, ("more", 0, 1)), (fitted.share_range, example(), FACTS, 0, 1), (changes.apply_change, rig, POOL[1]), (changes.apply_changes, rig, POOL),
        (wishes.holds_all, rig, WISHES), (wishes.check_wishes, lamp(), WISHES), (mends.good_selections, rig, POOL, WISHES), (mends.least_mends, rig, POOL, WISHES), (mends.spoilers, rig, POOL, WISHES)]


class Keeping(Case):
    def test_arguments_are_rows_of_either_kind_and_stay_as_they_are(self):
        for function, *arguments in asked():
            with self.subTest(function.__name__):
                told = function(*arguments)
                lists = [as_lists(argument) for argument in arguments]
                before = copy.deepcopy(lists)
                self.assertTrue(function(*lists) == told)
                self.assertTrue(lists == before)
                # Asked once more, it tells the same: nothing is kept between calls.
                self.assertTrue(function(*arguments) == told)

    def test_what_objects_were_made_of_may_change_later(self):
        places, spans = [[0, TWO]], [[[MAST, q(4)], [0, ONE]]]
        made = unknown.Unknowns(free(1), places, spans)
        places[0][0] = spans[0][0][0] = 7
        spans.append(None)
        self.assertTrue(made == example())

    def test_attributes_are_tuples_throughout(self):
        made = unknown.Unknowns(free(1), [[0, TWO]], [[[MAST, q(4)], [0, ONE]]])
        self.same((made.places, made.spans), ((place(0, 2),), ((place(MAST, 4), place(0, 1)),)))


class OtherArms(Case):
    """What is felt has its works and pushes on arms of any kind."""

    def test_tree(self):
        rig = rigs.Rig(tree(), ((place(5, 1), ONE), (place(4, 2), TWO)), ((place(MAST, 3), place(5, 1), ONE),))
        self.assertTrue(rigtext.rig_of(tree(), rigtext.rig_text(rig)) == rig)
        self.same(fewest.needed_count(rig), len(fewest.bearing_letters(rig)))
        self.assertTrue(lockstill.still_locked(rig, lockstill.fewest_locks(rig)) is None)
        self.same(feels.felt_ratio(rig, rig), ONE)
        self.assertTrue(sameness.moved_rig(rig, tree()).arms == tree())


if __name__ == "__main__":
    unittest.main()
