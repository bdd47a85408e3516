"""slides.py [7.1] to [7.3]."""
import itertools
import unittest

from stillarms.couplings import Couplings, couplings_of
from stillarms.errors import BadAmounts, BadLoads, BadSettings, BadSlide
from stillarms.ratios import ONE, ZERO
from stillarms.rigs import Rig
from stillarms.slides import (Parts, check_amounts, check_loads, check_settings, check_slides, corner_amounts,
                              corner_settings, rig_by_settings, straight_parts)
from tests.cases import MAST, NO_RATIOS, ODD_THINGS, Case, Draws, free, place, q, qs


def sample():
    """Two letters, three weights and three springs."""
    return Rig(free(2), ((place(0, 2), ONE), (place(1, 3), q(2)), (place(0, -1), q("1/2"))),
               ((place(MAST, 4), place(0, 1), q("1/2")), (place(0, 1), place(1, 1), ONE),
                (place(MAST, -2), place(1, 1), q(3))))


LOADS = ((0, ZERO, q(3)), (2, q("1/2"), q("1/2")))
SLIDES = (("end", 0, 0, q(-1), q(5)), ("strength", 1, ZERO, q(2)), ("mark", 1, q(-3), q(3)))

BAD_LOADS = tuple((0, "many", thing) for thing in ODD_THINGS + (5, "0", range(0), ((0, ONE, ONE),) * 4)) + (
    (0, "row", (None,)), (0, "row", (0,)), (1, "row", (LOADS[0], (1, ONE))), (0, "row", ((0, ONE, ONE, ONE),)),
    (2, "row", LOADS + ({1: 1, 2: 2, 3: 3},)), (1, "row", (LOADS[0], "011")), (0, "row", ((), (9, ONE, ONE))),
    (0, "weight", ((3, ONE, ONE),)), (0, "weight", ((-1, None, ONE),)), (1, "weight", (LOADS[0], (0, ONE, ONE))),
    (2, "weight", [LOADS[0], (1, ONE, ONE), [0, ONE, ONE]]), (0, "weight", ((True, ONE, ONE),)), (0, "weight", ((1.0, ONE, ONE),)),
    (0, "weight", ((None, ONE, ONE),)), (0, "weight", (("0", ONE, ONE),)), (0, "weight", (((0,), ONE, ONE),)),
    (0, "stretch", ((0, q(-1), ONE),)), (0, "stretch", ((0, ONE, ZERO),)), (1, "stretch", (LOADS[0], (1, q("1/2"), q("1/3")))),
    (0, "stretch", ((0, 0, ONE),)), (0, "stretch", ((0, ZERO, 1),)), (0, "stretch", ((0, (0, 2), ONE),)),
    (0, "stretch", ((0, None, ONE),)), (0, "stretch", ((0, q(-2), q(-1)),)))

# With the loads above: weights 0 and 2 are theirs.
BAD_SLIDES = tuple((0, "many", thing) for thing in ODD_THINGS + (5, "end", range(0), SLIDES + (("mark", 9, ONE, ONE),))) + tuple(
    (0, "row", (thing,)) for thing in ODD_THINGS + ((), ("end",), ("end", 0, q(-1), q(5)), ("mark", 1, 0, ONE, ONE), (0, ONE, ONE, ONE),
                                                    ("strength", 1, 0, ONE, ONE), ("amount", 1, ONE), ("amount", 1, ONE, ONE, ONE),
                                                    ("End", 0, 0, ONE, ONE), ("marks", 1, ONE, ONE), (None, 1, ONE, ONE), "mark",
                                                    (["mark"], 1, ONE, ONE), (b"mark", 1, ONE, ONE), ("", 1, ONE, ONE),
                                                    ("mark", 9, None, ONE, 1), {1: 1, 2: 2, 3: 3, 4: 4})) + (
    (1, "row", (SLIDES[0], None)), (2, "row", SLIDES[:2] + (("mark", 1, ONE),)),
    (0, "number", (("mark", 3, None, None),)), (0, "number", (("amount", -1, ONE, ONE),)), (0, "number", (("strength", 3, ONE, ONE),)),
    (0, "number", (("end", 3, 5, None, ONE),)), (0, "number", (("mark", True, ONE, ONE),)), (0, "number", (("end", 1.0, 0, ONE, ONE),)),
    (0, "number", (("strength", None, ONE, ONE),)), (1, "number", (SLIDES[0], ("amount", "1", ONE, ONE))),
    (0, "end", (("end", 0, 2, None, ONE),)), (0, "end", (("end", 0, -1, ONE, ONE),)), (0, "end", (("end", 0, True, ONE, ONE),)),
    (0, "end", (("end", 0, ONE, ONE, ONE),)), (1, "end", (SLIDES[0], ("end", 0, None, ONE, ONE))), (0, "end", (("end", 0, 0.0, ONE, ONE),)),
    (1, "taken", (SLIDES[0], ("end", 0, 1, None, ONE))), (1, "taken", (SLIDES[0], ("strength", 0, ONE, ONE))),
    (1, "taken", (SLIDES[1], ("end", 1, 0, ONE, ONE))), (2, "taken", (SLIDES[2], SLIDES[0], ("amount", 1, q(-1), ONE))),
    (1, "taken", (("amount", 1, ONE, ONE), SLIDES[2])), (0, "taken", (("mark", 0, None, ONE),)), (0, "taken", (("amount", 2, ONE, ZERO),)),
    (1, "taken", (SLIDES[0], ("mark", 2, ONE, ONE))), (1, "taken", (SLIDES[1], SLIDES[1])),
    (0, "stretch", (("mark", 1, ONE, ZERO),)), (0, "stretch", (("mark", 1, None, ZERO),)), (0, "stretch", (("mark", 1, ZERO, 1),)),
    (0, "stretch", (("end", 0, 1, ONE, ZERO),)), (0, "stretch", (("end", 0, 1, (2, 2), ONE),)), (0, "stretch", (("strength", 0, q(-1), ONE),)),
    (0, "stretch", (("amount", 1, q("-1/9"), ONE),)), (0, "stretch", (("amount", 1, ONE, q("8/9")),)),
    (1, "stretch", (SLIDES[0], ("strength", 1, q(-2), q(-1)))), (2, "stretch", SLIDES[:2] + (("mark", 1, ONE, None),)))


class Loads(Case):
    def test_right(self):
        for loads in ((), LOADS, LOADS[:1], LOADS[::-1], LOADS + ((1, q(2), q(7)),), ((1, ZERO, ZERO),)):
            self.same(check_loads(sample(), loads), loads)
            self.same(check_loads(sample(), [list(load) for load in loads]), loads)

    def test_wrong(self):
        rig = sample()
        for index, what, loads in BAD_LOADS:
            told = {"index": index, "what": what}
            self.fails(BadLoads, told, check_loads, rig, loads)
            self.fails(BadLoads, told, check_slides, rig, loads, None)
            self.fails(BadLoads, told, rig_by_settings, rig, loads, None, None, None)
            self.fails(BadLoads, told, straight_parts, rig, loads, None)
        for thing in NO_RATIOS:
            self.fails(BadLoads, {"index": 0, "what": "stretch"}, check_loads, rig, ((0, ZERO, thing),))
            self.fails(BadLoads, {"index": 0, "what": "stretch"}, check_loads, rig, ((0, thing, ONE),))
        self.fails(BadLoads, {"index": 0, "what": "weight"}, check_loads, Rig(free(2)), LOADS)

    def test_not_kept(self):
        loads = [[0, ZERO, ONE]]
        told = check_loads(sample(), loads)
        loads[0][0] = 1
        self.same(told, ((0, ZERO, ONE),))

    def test_amounts(self):
        for amounts in (qs("0 1/2"), qs("3 1/2"), qs("7/5 1/2")):
            self.same(check_amounts(LOADS, amounts), amounts)
            self.same(check_amounts([list(load) for load in LOADS], list(amounts)), amounts)
        self.same(check_amounts((), []), ())
        for amounts in ODD_THINGS + ((), qs("0"), qs("0 1/2 1/2"), qs("-1/9 1/2"), qs("31/10 1/2"), qs("0 1/3"), (ZERO, None),
                                     (0, q("1/2")), ((0, 2), q("1/2")), range(2)):
            self.fails(BadAmounts, {}, check_amounts, LOADS, amounts)
        self.fails(BadAmounts, {}, check_amounts, (), (ZERO,))

    def test_corners(self):
        self.same(list(corner_amounts(())), [()])
        self.same(list(corner_amounts(LOADS)), [qs("0 1/2"), qs("3 1/2")])
        self.same(list(corner_amounts(LOADS[::-1])), [qs("1/2 0"), qs("1/2 3")])
        self.same(list(corner_amounts([[0, ZERO, ONE], [1, q(2), q(3)], [2, q(4), q(5)]])),
                  [qs(text) for text in ("0 2 4", "0 2 5", "0 3 4", "0 3 5", "1 2 4", "1 2 5", "1 3 4", "1 3 5")])
        self.same(list(corner_amounts(((1, ONE, ONE),))), [(ONE,)])


class Slides(Case):
    def test_right(self):
        for slides in ((), SLIDES, SLIDES[:1], SLIDES[::-1], (("amount", 1, ZERO, q(9)), ("end", 2, 1, q(-9), q(-9))),
                       (("strength", 2, q(3), q(3)),), (("mark", 1, q(-2), q(-1)), ("strength", 0, ZERO, ZERO))):
            self.same(check_slides(sample(), LOADS, slides), slides)
            self.same(check_slides(sample(), list(LOADS), [list(slide) for slide in slides]), slides)
        # A weight and a spring of one number are not in each other's way.
        slides = (("mark", 0, ZERO, ONE), ("end", 0, 1, ZERO, ONE), ("amount", 2, ZERO, ONE))
        self.same(check_slides(sample(), (), slides), slides)

    def test_wrong(self):
        rig = sample()
        for index, what, slides in BAD_SLIDES:
            told = {"index": index, "what": what}
            self.fails(BadSlide, told, check_slides, rig, LOADS, slides)
            self.fails(BadSlide, told, rig_by_settings, rig, LOADS, slides, None, None)
            self.fails(BadSlide, told, straight_parts, rig, LOADS, slides)
        for thing in NO_RATIOS:
            for form in (("end", 0, 0), ("mark", 1), ("strength", 0), ("amount", 1)):
                told = {"index": 0, "what": "stretch"}
                self.fails(BadSlide, told, check_slides, rig, LOADS, (form + (ZERO, thing),))
                self.fails(BadSlide, told, check_slides, rig, LOADS, (form + (thing, ONE),))

    def test_not_kept(self):
        slides = [list(SLIDES[0])]
        told = check_slides(sample(), LOADS, slides)
        slides[0][1] = 1
        self.same(told, SLIDES[:1])

    def test_settings(self):
        for settings in (qs("-1 0 -3"), qs("5 2 3"), qs("0 1/3 0")):
            self.same(check_settings(SLIDES, settings), settings)
            self.same(check_settings([list(slide) for slide in SLIDES], list(settings)), settings)
        self.same(check_settings((), ()), ())
        for settings in ODD_THINGS + ((), qs("0 0"), qs("0 0 0 0"), qs("-2 0 0"), qs("0 21/10 0"), qs("0 0 4"), qs("0 -1/9 0"),
                                      (ZERO, ZERO, None), (0, ZERO, ZERO), ((0, 2), ZERO, ZERO), range(3)):
            self.fails(BadSettings, {}, check_settings, SLIDES, settings)
        self.fails(BadSettings, {}, check_settings, (), (ZERO,))

    def test_corners(self):
        self.same(list(corner_settings(())), [()])
        self.same(list(corner_settings(SLIDES)), [qs(text) for text in (
            "-1 0 -3", "-1 0 3", "-1 2 -3", "-1 2 3", "5 0 -3", "5 0 3", "5 2 -3", "5 2 3")])
        self.same(list(corner_settings([["end", 0, 0, ONE, ONE], list(SLIDES[1])])), [qs("1 0"), qs("1 2")])


class RigsBySettings(Case):
    def test_all_forms(self):
        rig = sample()
        told = rig_by_settings(rig, LOADS, SLIDES, qs("7/3 1/2"), list(qs("-1/2 1/9 -3")))
        self.assertTrue(told == Rig(rig.arms, ((place(0, 2), q("7/3")), (place(1, -3), q(2)), (place(0, -1), q("1/2"))),
                                    ((place(MAST, "-1/2"), place(0, 1), q("1/2")), (place(0, 1), place(1, 1), q("1/9")),
                                     rig.springs[2])))
        slides = [["end", 2, 1, q(-9), q(9)], ["amount", 1, ZERO, q(9)]]
        told = rig_by_settings(rig, (), slides, [], qs("-8 6"))
        self.assertTrue(told == Rig(rig.arms, (rig.weights[0], (place(1, 3), q(6)), rig.weights[2]),
                                    rig.springs[:2] + ((place(MAST, -2), place(1, -8), q(3)),)))
        self.assertTrue(rig_by_settings(rig, (), (), (), ()) == rig)

    def test_nothing_of_0_is_left(self):
        rig = sample()
        slides = (("amount", 1, ZERO, ONE), ("strength", 1, ZERO, ONE))
        told = rig_by_settings(rig, LOADS, slides, qs("0 1/2"), qs("0 0"))
        self.assertTrue(told == Rig(rig.arms, rig.weights[2:], (rig.springs[0], rig.springs[2])))
        told = rig_by_settings(rig, ((2, ZERO, ONE),), slides, (ZERO,), qs("1 0"))
        self.assertTrue(told == Rig(rig.arms, (rig.weights[0], (place(1, 3), ONE)), (rig.springs[0], rig.springs[2])))

    def test_errors(self):
        rig = sample()
        for amounts in (None, (), qs("0"), qs("4 1/2"), qs("0 1/2 0")):
            self.fails(BadAmounts, {}, rig_by_settings, rig, LOADS, SLIDES, amounts, None)
        for settings in (None, (), qs("0 0"), qs("0 3 0"), qs("0 0 0 0")):
            self.fails(BadSettings, {}, rig_by_settings, rig, LOADS, SLIDES, qs("0 1/2"), settings)


def draw_case(draws):
    """A rig, loads and slides that are drawn."""
    rig = draws.rig(weights=5, springs=4)
    weights, springs = list(range(len(rig.weights))), list(range(len(rig.springs)))
    draws.random.shuffle(weights)
    draws.random.shuffle(springs)

    def stretch(least):
        low = draws.random.randint(least, 3)
        return (q(low), q(low + draws.random.choice((0, 1, 2, 5))))

    loads = tuple((weights.pop(),) + stretch(0) for _ in range(draws.random.randint(0, min(2, len(weights)))))
    slides = []
    for _ in range(draws.random.randint(0, 3)):
        form = draws.random.choice(("end", "mark", "strength", "amount"))
        if form in ("end", "strength") and springs:
            slides.append((form, springs.pop()) + ((draws.random.randint(0, 1),) if form == "end" else ())
                          + stretch(-3 if form == "end" else 0))
        if form in ("mark", "amount") and weights:
            slides.append((form, weights.pop()) + stretch(-3 if form == "mark" else 0))
    return rig, loads, tuple(slides)


class StraightParts(Case):
    def test_by_hand(self):
        told = straight_parts(sample(), LOADS, SLIDES)
        self.assertIs(type(told), Parts)
        # Without loads, with a spring at mast:0 and none of strength 0, and with weight 1 at its bar's foot.
        self.assertTrue(told.constant == Couplings((qs("0 6"), qs("0"))))
        self.same([table.numbers for table in told.by_loads], [qs("2 0 0"), qs("-1 0 0")])
        self.same([table.numbers for table in told.by_slides], [qs("-1/2 0 0"), qs("0 0 -1"), qs("0 2 0")])
        self.assertEqual((type(told.by_loads), type(told.by_slides)), (tuple, tuple))
        told = straight_parts(sample(), (), [])
        self.assertTrue(told == Parts(couplings_of(sample()), (), ()))

    def mixture(self, parts, amounts, settings):
        total = parts.constant
        for table, number in zip(parts.by_loads + parts.by_slides, tuple(amounts) + tuple(settings)):
            total = total.added(table.scaled(number))
        return total

    def test_drawn(self):
        draws = Draws("slides")
        forms = set()
        for _ in range(60):
            rig, loads, slides = draw_case(draws)
            forms |= {slide[0] for slide in slides}
            parts = straight_parts(rig, loads, slides)
            self.assertEqual((len(parts.by_loads), len(parts.by_slides)), (len(loads), len(slides)))
            corners = list(itertools.product(corner_amounts(loads), corner_settings(slides)))
            between = [tuple(tuple(q(f"{low[0] * 2 + high[0]}/3")
                                   for *_, low, high in rows) for rows in (loads, slides))]
            for amounts, settings in corners + between:
                self.assertTrue(couplings_of(rig_by_settings(rig, loads, slides, amounts, settings))
                                == self.mixture(parts, amounts, settings))
            # For all ratios, also outside of the stretches.
            wide = tuple(load[:1] + (ZERO, q(99)) for load in loads)
            wider = tuple(slide[:-2] + (ZERO if slide[0] in ("strength", "amount") else q(-99), q(99)) for slide in slides)
            amounts, settings = [draws.positive() for _ in loads], [draws.positive() for _ in slides]
            self.assertTrue(couplings_of(rig_by_settings(rig, wide, wider, amounts, settings))
                            == self.mixture(parts, amounts, settings))
        self.assertEqual(forms, {"end", "mark", "strength", "amount"})

    def test_the_own_numbers_do_not_matter(self):
        draws = Draws("own numbers")
        for _ in range(30):
            rig, loads, slides = draw_case(draws)
            other = rig
            for load in loads:
                other = other.with_amount(load[0], draws.positive())
            for slide in slides:
                if slide[0] == "amount":
                    other = other.with_amount(slide[1], draws.positive())
                if slide[0] == "strength":
                    other = other.with_strength(slide[1], draws.positive())
            self.assertTrue(straight_parts(rig, loads, slides) == straight_parts(other, loads, slides))

    def test_equality(self):
        one, other = straight_parts(sample(), LOADS, SLIDES), straight_parts(sample(), (), ())
        self.assertTrue(one == straight_parts(sample(), list(LOADS), list(SLIDES)))
        self.unlike_all(one, (other, Parts(other.constant, one.by_loads, one.by_slides), None,
                              Parts(one.constant, (), one.by_slides), Parts(one.constant, one.by_loads, ())))


if __name__ == "__main__":
    unittest.main()
