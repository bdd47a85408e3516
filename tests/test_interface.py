"""The interface: each name in its own file, with its arguments and defaults, and each method in its own class."""
import importlib
import inspect
import pkgutil
import re
import unittest

import stillarms

LISTED = {
    "ratios": """is_whole(thing, low=None, high=None), is_ratio(thing), make_ratio(top, bottom=1), plus(one, other),
        minus(one, other), times(one, other), over(one, other), negative(one), size_of(one), compare(one, other),
        sum_of(row), least_of(row), greatest_of(row), ratio_text(one), ratio_of(text)""",
    "arms": """check_place(arms, place), scale_row(row, ratio), join_rows(one, other), take_row(one, other),
        is_nought(row), grown_place(place, size), letter_row(arms, letter)""",
    "armtext": "place_text(place), place_of(arms, text), arm_text(arms), arms_of(text)",
    "rigs": "",
    "rigtext": "rig_text(rig), rig_of(arms, text)",
    "directions": """is_spot(thing), check_spot(spot), is_direction(thing), check_direction(direction), root_of(ratio),
        direction_by(half), half_of(direction), add_halves(one, other), turned_by(direction, half),
        turned_quarters(direction, quarters), quarter_direction(quarters), opposite_of(direction),
        mirrored_direction(direction), cosine_between(one, other), sine_between(one, other)""",
    "posetext": "pose_text(pose), pose_of(arms, text)",
    "poses": """check_pose(arms, pose), check_letter(arms, letter, least=0), direction_of(arms, pose, letter),
        cosine_of(arms, pose, one, other), sine_of(arms, pose, one, other), up_pose(arms), pose_by(arms, halves),
        flat_poses(arms), quarter_poses(arms), with_direction(arms, pose, letter, direction),
        turned_letter(arms, pose, letter, half), mirrored_pose(arms, pose), renamed_pose(arms, pose, order),
        place_at(arms, pose, place), height_at(arms, pose, place), hinges_at(arms, pose),
        square_between(arms, pose, one, other)""",
    "works": """weight_works(rig, pose), spring_works(rig, pose), work_at(rig, pose),
        push_of_weight(rig, pose, number, letter), push_of_spring(rig, pose, number, letter),
        push_at(rig, pose, letter), pushes_at(rig, pose), rests_in(rig, pose), sway_of(rig, pose, letter),
        resting_directions(sway)""",
    "alike": """apart_pose(arms, one, other), always_one(arms, one, other), group_places(arms, places),
        same_hinges(arms), copying_of(arms, one, other), uncopied_pose(arms, one, other, copying),
        keeps_distance(arms, one, other), unequal_pose(arms, one, other, third, fourth),
        slanting_pose(arms, one, other, third, fourth), crossing_pose(arms, one, other, third, fourth),
        crooked_pose(arms, one, other, third)""",
    "reach": """greatest_distance(arms, one, other), least_distance(arms, one, other), can_meet(arms, one, other),
        farthest_pose(arms, one, other), nearest_pose(arms, one, other), beyond_pose(arms, one, other, length),
        below_pose(arms, one, other), heights_of(arms, place), height_poses(arms, place), belt_of(arms, place),
        can_come_to(arms, place, spot)""",
    "couplings": """pairs_of(letters), zero_couplings(letters), couplings_by(letters, numbers), row_couplings(row),
        span_couplings(arms, one, other), couplings_of(rig), weight_couplings(rig), spring_couplings(rig),
        constant_of(rig), weight_row(rig), pair_product(one, other)""",
    "signs": """groups_of(couplings), signs_for(couplings), signs_fault(couplings, signs),
        ring_fault(couplings, ring)""",
    "stillness": """work_by(couplings, pose), push_by(couplings, pose, letter), push_pose(couplings, letter),
        is_still(rig), still_or_push(rig), push_fault(rig, push), same_feel(one, other), work_rise(rig, pose, other),
        greatest_rise(rig, letter), loose_letters(rig), lot_push(rig, lot)""",
    "worktables": "flat_works(constant, couplings), split_works(works), one_spring(couplings)",
    "brakes": """check_brakes(arms, brakes), least_brakes(rig), is_held(rig, brakes), slip_of(rig, brakes),
        slip_fault(rig, brakes, slip)""",
    "pins": """check_pins(arms, pins), pinned_bounds(rig, pins), is_held_pinned(rig, brakes, pins),
        pinned_slip(rig, brakes, pins), pinned_fault(rig, brakes, pins, slip), pinned_stretches(rig, pins),
        pinned_pose(rig, pins, letter)""",
    "stretches": "corner_choices(stretched), rig_at(stretched, numbers), rig_by(stretched, choice)",
    "allheld": """coupling_extent(stretched, one, other), push_extent(stretched, pose, letter),
        rise_extent(stretched, pose, other), numbers_that_matter(stretched), all_still(stretched),
        all_held(stretched, brakes, *, pins=()), least_brakes_for(stretched),
        breach_fault(stretched, brakes, breach, *, pins=())""",
    "losses": """spring_lots(rig, count), without_lot(rig, lot), weakened(rig, shares),
        held_without(rig, brakes, count, *, pins=()), least_brakes_without(rig, count), most_lost(rig, brakes),
        least_losses(rig, brakes), loss_fault(rig, brakes, loss, *, pins=())""",
    "tasks": "solve_task(columns, target), least_cost(columns, target, costs), least_sum(columns, target)",
    "taskjudge": """solution_fault(columns, target, solution), against_fault(columns, target, against),
        least_fault(columns, target, costs, least), endless_fault(columns, target, costs, endless)""",
    "lean": "all_lean(columns, target)",
    "pools": """check_pool(arms, pool), stills(rig, pool), wished(arms, pool, couplings),
        least_strength(rig, pool)""",
    "pooljudge": """with_strengths(rig, pool, row), stills_fault(rig, pool, told),
        wished_fault(arms, pool, couplings, told), least_strength_fault(rig, pool, told)""",
    "fewest": "still_lots(rig, pool), fewest_springs(rig, pool), bearing_letters(rig), needed_count(rig)",
    "owners": "owners_of(rig), pool_owners(rig, pool)",
    "ends": """strength_ends(rig, pool, number), needed_springs(rig, pool), usable_springs(rig, pool),
        only_strengths(rig, pool)""",
    "counters": """counterweights(rig, places), least_counterweights(rig, places),
        with_counterweights(rig, places, row), counterweights_fault(rig, places, told)""",
    "slides": """check_loads(rig, loads), check_slides(rig, loads, slides), check_amounts(loads, amounts),
        check_settings(slides, settings), rig_by_settings(rig, loads, slides, amounts, settings),
        straight_parts(rig, loads, slides), corner_amounts(loads), corner_settings(slides)""",
    "adjusters": """settings_for(rig, loads, slides, amounts, *, brakes=None),
        rule_for(rig, loads, slides, *, brakes=None), fewest_slides(rig, loads, slides, *, brakes=None),
        needed_slides(rig, loads)""",
    "slidejudges": """settings_fault(rig, loads, slides, amounts, told, *, brakes=None),
        rule_fault(rig, loads, slides, told, *, brakes=None)""",
    "widest": "widest_load(rig, weight, slides, *, brakes=None)",
    "holding": """fixed_settings(rig, loads, slides, *, brakes=None), least_push(rig, loads, slides, amounts),
        worst_push(rig, loads, slides)""",
    "squares": "check_grid(grid), grid_value(grid, turns), split_grid(grid), split_fault(grid, split)",
    "leastwork": """blocks_of(couplings), lowest_of(couplings), lowest_fault(couplings, lowest), least_value(couplings),
        greatest_value(couplings), least_work(rig), greatest_work(rig), most_between(rig),
        square_range(arms, one, other, third, fourth), never_farther(arms, one, other, third, fourth)""",
    "rests": """rest_of(rig, pose), rest_fault(rig, pose, told), overall_of(rig, pose), overall_fault(rig, pose, told),
        flat_rests(rig), lowest_pose(rig)""",
    "locks": """check_locks(arms, locks), leaders_of(arms, locks), obeys_locks(arms, locks, pose),
        locked_pose(arms, locks, pose)""",
    "lockstill": """locked_couplings(rig, locks), still_locked(rig, locks), stilling_locks(rig),
        fewest_locks(rig)""",
    "feels": """felt_ratio(one, other), felt_weight(rig, place), felt_spring(rig, one, other), needless_weights(rig),
        needless_springs(rig)""",
    "spreads": """spread_weight(arms, place, places, *, exact=False),
        spread_fault(arms, place, places, told, *, exact=False)""",
    "sameness": "twins_on(one, other, place), first_unlike(one, other), moved_rig(rig, other)",
    "unknown": """check_guess(unknowns, guess), rig_with(unknowns, guess), check_fact(unknowns, fact),
        check_facts(unknowns, facts), fact_rows(unknowns, fact), holds_fact(unknowns, guess, fact)""",
    "fitted": """fit_facts(unknowns, facts), fit_fault(unknowns, facts, told), is_sure(unknowns, facts, question),
        sure_fault(unknowns, facts, question, told), share_range(unknowns, facts, number, other)""",
    "changes": "check_form(arms, change), apply_change(rig, change), apply_changes(rig, changes)",
    "wishes": """check_wish(arms, wish), check_wishes(arms, wishes), holds_wish(rig, wish),
        holds_all(rig, wishes)""",
    "mends": """good_selections(rig, pool, wishes), least_mends(rig, pool, wishes), spoilers(rig, pool, wishes),
        mends_fault(rig, pool, wishes, mends)""",
    "bench": "",
}

CLASSES = {
    "arms": {"Arms(bars)": """row_of(place), hinge_row(number), difference_row(one, other),
        with_bar(host, mark, letter), grown(size), shifted(step), renamed(order), __len__(), __eq__(other)"""},
    "rigs": {"Rig(arms, weights=(), springs=())": """with_weight(place, amount), with_spring(one, other, strength),
        without_weight(number), without_spring(number), with_amount(number, amount), with_strength(number, strength),
        bare(), joined(other), spring_row(number), weight_rows(), grown(size), renamed(order), shifted(step),
        __len__(), __eq__(other)"""},
    "works": {"Sway(across, upward, steady)": "work_in(direction), push_in(direction), is_free(), __eq__(other)"},
    "alike": {"Copying(ratio, shift)": "image_of(spot), chained(other), turned_back(), __eq__(other)"},
    "reach": {"Belt(centre, low, high)": "__contains__(spot), __eq__(other)"},
    "couplings": {"Couplings(rows)": """coupling(one, other), added(other), scaled(ratio), opposite(), is_zero(),
        greatest_push(letter), __len__(), __eq__(other)"""},
    "signs": {"Signs(signs)": "__eq__(other)", "OddRing(letters)": "__eq__(other)"},
    "stillness": {"Push(letter, pose, push)": "__eq__(other)", "Rise(letter, low, high, rise)": "__eq__(other)"},
    "worktables": {"WorkSplit(constant, couplings)": "__eq__(other)", "Tangled(letters)": "__eq__(other)",
                   "OneSpring(strength, row)": "__eq__(other)"},
    "brakes": {"Slips(letter, pose, push)": "__eq__(other)"},
    "stretches": {"Stretched(bars, weights=(), springs=())": "__len__(), __eq__(other), __contains__(numbers)"},
    "allheld": {"Stirred(choice, push)": "__eq__(other)", "Breach(choice, slip)": "__eq__(other)"},
    "losses": {"Lost(lot, slip)": "__eq__(other)"},
    "tasks": {"Solution(amounts)": "__eq__(other)", "Against(numbers)": "__eq__(other)",
              "Least(value, amounts, numbers)": "__eq__(other)", "Endless(amounts, way)": "__eq__(other)"},
    "pools": {"Strengths(row)": "__eq__(other)", "NoStrengths(table)": "__eq__(other)",
              "LeastStrengths(value, row, table)": "__eq__(other)"},
    "owners": {"Owners(springs)": "__eq__(other)", "Short(letters, springs)": "__eq__(other)"},
    "ends": {"Ends(least, greatest)": "__eq__(other)"},
    "counters": {"Counterweights(row)": "__eq__(other)", "NoCounterweights(table)": "__eq__(other)",
                 "LeastCounterweights(value, row, table)": "__eq__(other)"},
    "slides": {"Parts(constant, by_loads, by_slides)": "__eq__(other)"},
    "adjusters": {"Settings(row)": "__eq__(other)", "NoSetting(table, shares)": "__eq__(other)",
                  "Rule(loads, corners, rows)": "__call__(amounts), __eq__(other)",
                  "NoRule(amounts, why)": "__eq__(other)"},
    "widest": {"Widest(low, high, below, beyond)": "__eq__(other)"},
    "holding": {"NoFixed(row)": "__eq__(other)", "LeastPush(value, row, table, shares)": "__eq__(other)",
                "WorstPush(amounts, least)": "__eq__(other)"},
    "squares": {"Firm(squares)": "__eq__(other)", "Even(squares, turns)": "__eq__(other)",
                "Falls(turns)": "__eq__(other)"},
    "leastwork": {"Lowest(value, cosines, squares)": "__eq__(other)"},
    "rests": {"Pushed(letter)": "__eq__(other)"},
    "lockstill": {"Uneven(pose, rise)": "__eq__(other)"},
    "spreads": {"Spread(amounts)": "__eq__(other)", "NoSpread(numbers)": "__eq__(other)"},
    "unknown": {"Unknowns(arms, places, spans)": "__len__(), __eq__(other)"},
    "fitted": {"Fits(guess)": "__eq__(other)", "Clash(lots, numbers)": "__eq__(other)", "Sure()": "__eq__(other)",
               "Never()": "__eq__(other)", "Both(yes, no)": "__eq__(other)"},
    "mends": {"Mend(selection, rig)": "__eq__(other)"},
    "bench": {"Bench(rig)": """make(change), undo(), holds(*wishes), trial(*changes, wishes=(('still',),)), stages(),
        __len__(), __contains__(place)"""},
}

PROPERTIES = (("works", "Sway", "swing"), ("alike", "Copying", "fixed_mark"), ("stretches", "Stretched", "middle"),
              ("leastwork", "Lowest", "is_bent"), ("bench", "Bench", "made"))
GENERATORS = (("poses", "flat_poses"), ("poses", "quarter_poses"), ("stretches", "corner_choices"),
              ("losses", "spring_lots"), ("lean", "all_lean"), ("fewest", "still_lots"), ("slides", "corner_amounts"),
              ("slides", "corner_settings"), ("rests", "flat_rests"))

# Classes that check or keep more than they are given.
NO_RESULTS = ("Arms", "Rig", "Couplings", "Stretched", "Unknowns", "Bench")


def calls(text):
    """The names and signatures of a row such as "f(x), g(y, z=1)"."""
    for entry in re.split(r"(?<=\)), (?=\w+\()", " ".join(text.split())):
        if entry:
            name, arguments = entry.split("(", 1)
            yield name, "(" + arguments


def signature(function, own=False):
    told = inspect.signature(function)
    names = list(told.parameters.values())[1 if own else 0:]
    return str(told.replace(parameters=names))


class Interface(unittest.TestCase):
    def test_functions(self):
        for module, text in LISTED.items():
            home = importlib.import_module("stillarms." + module)
            for name, arguments in calls(text):
                function = getattr(home, name)
                self.assertTrue(inspect.isfunction(function), name)
                self.assertEqual(function.__module__, home.__name__)
                self.assertEqual(signature(function), arguments, name)
                self.assertEqual(inspect.isgeneratorfunction(function), (module, name) in GENERATORS, name)

    def test_classes(self):
        for module, classes in CLASSES.items():
            home = importlib.import_module("stillarms." + module)
            for head, text in classes.items():
                (name, arguments), = calls(head)
                made = getattr(home, name)
                self.assertEqual((made.__module__, made.__bases__), (home.__name__, (object,)))
                # A class without arguments needs no __init__ of its own.
                if arguments != "()":
                    self.assertEqual(signature(made.__init__, own=True), arguments, name)
                for method, told in calls(text):
                    self.assertIn(method, vars(made), name)
                    self.assertEqual(signature(vars(made)[method], own=True), told, f"{name}.{method}")

    def test_properties(self):
        for module, name, told in PROPERTIES:
            made = getattr(importlib.import_module("stillarms." + module), name)
            self.assertIs(type(vars(made)[told]), property)

    def test_stretched(self):
        made = vars(importlib.import_module("stillarms.stretches").Stretched)
        self.assertIs(type(made["from_rig"]), staticmethod)
        self.assertEqual(signature(made["from_rig"].__func__), "(rig)")
        self.assertEqual(made["MOST"], 6)

    def test_results_keep_what_they_are_given(self):
        for module, classes in CLASSES.items():
            for head in classes:
                (name, arguments), = calls(head)
                if name in NO_RESULTS:
                    continue
                names = re.findall(r"\w+", arguments)
                values = [[] if at == 0 else object() for at in range(len(names))]
                made = getattr(importlib.import_module("stillarms." + module), name)
                told = made(*values)
                self.assertEqual(vars(told), dict(zip(names, values)))
                self.assertTrue(all(vars(told)[word] is value for word, value in zip(names, values)))
                self.assertTrue(told == made(*values))
                self.assertFalse(told == type("Other", (), vars(told))())
                for index in range(len(values)):
                    other = made(*values[:index], object(), *values[index + 1:])
                    self.assertFalse(told == other or other == told, head)

    def test_generators_of_the_bench(self):
        made = importlib.import_module("stillarms.bench").Bench
        self.assertTrue(inspect.isgeneratorfunction(made.stages))
        self.assertEqual([name for name in ("make", "undo", "holds", "trial") if inspect.isgeneratorfunction(vars(made)[name])], [])

    def test_all_modules_are_listed(self):
        # The modules that the document does not name serve those that it does.
        own = ("errors", "rows", "bounds", "simplex", "independent", "settling")
        found = sorted(module.name for module in pkgutil.iter_modules(stillarms.__path__))
        self.assertEqual(found, sorted(list(LISTED) + list(own)))
        self.assertLessEqual(set(CLASSES), set(LISTED))

    def test_constants(self):
        ratios = importlib.import_module("stillarms.ratios")
        directions = importlib.import_module("stillarms.directions")
        self.assertEqual((ratios.ZERO, ratios.ONE, ratios.HALF), ((0, 1), (1, 1), (1, 2)))
        self.assertEqual([directions.UP, directions.LEFT, directions.DOWN, directions.RIGHT, directions.END],
                         [((0, 1), (1, 1)), ((-1, 1), (0, 1)), ((0, 1), (-1, 1)), ((1, 1), (0, 1)), None])


if __name__ == "__main__":
    unittest.main()
