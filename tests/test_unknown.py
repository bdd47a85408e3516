"""unknown.py [10.1] to [10.4]."""
import unittest

from stillarms.couplings import couplings_of, pairs_of
from stillarms.directions import DOWN, LEFT, RIGHT, UP
from stillarms.errors import BadFact, BadGuess, BadUnknowns
from stillarms.ratios import ONE, ZERO
from stillarms.rigs import Rig
from stillarms.stillness import is_still
from stillarms.unknown import Unknowns, check_fact, check_facts, check_guess, fact_rows, holds_fact, rig_with
from stillarms.works import push_at, pushes_at, rests_in, work_at
from tests.cases import MAST, NO_RATIOS, ODD_THINGS, Case, Draws, frac, free, lamp, place, q, qs
from tests.test_feels import BAD_PLACES
from tests.test_rests import BAD_POSES, SLANT

SPAN = (place(MAST, 4), place(0, 1))


def example():
    """The one of DOC.md: a weight at 0:2 and a spring from mast:4 to 0:1."""
    return Unknowns(free(1), (place(0, 2),), (SPAN,))


def two_letters():
    return Unknowns(lamp(), (place(0, 1), place(1, 2)), ((place(MAST, 1), place(1, 1)),))


class Making(Case):
    def test_right(self):
        for places, spans in (((place(0, 1),), ()), ((), (SPAN,)), ((place(0, 1),) * 4, (SPAN,) * 4), ((place(MAST, 0),), ((place(0, 0), place(0, 0)),))):
            made = Unknowns(free(1), places, spans)
            self.assertTrue(made.arms == free(1))
            self.same((made.places, made.spans), (places, spans))
            self.assertEqual(len(made), len(places) + len(spans))
            lists = Unknowns(free(1), [list(where) for where in places], [[list(one), list(other)] for one, other in spans])
            self.same((lists.places, lists.spans), (places, spans))
            self.assertTrue(made == lists)
        kept = [place(0, 1)]
        made = Unknowns(free(1), kept, [])
        kept.append(None)
        self.same(made.places, (place(0, 1),))

    def test_wrong(self):
        def fails(index, what, places, spans):
            self.fails(BadUnknowns, {"index": index, "what": what}, Unknowns, lamp(), places, spans)

        right = place(0, 1)
        for thing in ODD_THINGS + (5, "01", range(1), {0: right}, (right,) * 5, (None,) * 5):
            fails(0, "many", thing, (SPAN,))
            fails(0, "many", (None,), thing)
        for none in ((), []):
            fails(0, "many", none, ())
        for thing in BAD_PLACES:
            fails(0, "place", (thing, None), (None,))
            fails(3, "place", [right, right, right, thing], ())
            fails(0, "span", (right,), ((thing, right),))
            fails(2, "span", (), [SPAN, SPAN, [right, thing], None])
        for thing in ODD_THINGS + ((), (right,), (right,) * 3, right, {0: right, 1: right}, "01"):
            fails(1, "span", (right,), (SPAN, thing))

    def test_equality(self):
        made = example()
        self.assertTrue(made == example())
        self.unlike_all(made, (Unknowns(lamp(), made.places, made.spans), Unknowns(free(1), (), made.spans), Unknowns(free(1), made.places, ()),
                               Unknowns(free(1), (place(0, 3),), made.spans), Rig(free(1), (), ()), None))


class Guesses(Case):
    def test_check(self):
        for guess in (qs("0 0"), qs("1 1/2"), qs("7 0")):
            self.same(check_guess(example(), guess), guess)
            self.same(check_guess(example(), list(guess)), guess)
        for index, guess in ((0, None), (0, 5), (0, "11"), (0, ()), (1, qs("1")), (2, qs("1 1 1")), (0, qs("-1 -1")), (1, qs("1 -1/9")), (0, (1, ONE)),
                             (1, [ONE, None]), (1, (ONE, (2, 2), None)), (0, {ONE, ZERO}), (0, {0: ONE, 1: ONE}), (0, range(2)), (2, (ONE, ONE, None)),
                             (0, ((True, 1), ONE))):
            for function, rest in ((check_guess, ()), (rig_with, ()), (holds_fact, (None,)), (holds_fact, (("still",),))):
                self.fails(BadGuess, {"index": index}, function, example(), guess, *rest)
        for thing in NO_RATIOS:
            self.fails(BadGuess, {"index": 1}, check_guess, example(), (ONE, thing))

    def test_rig(self):
        made = two_letters()
        arms = lamp()
        spring = (place(MAST, 1), place(1, 1))
        for guess, weights, springs in (("1 2 3", ((place(0, 1), ONE), (place(1, 2), q(2))), (spring + (q(3),),)),
                                        ("0 2 3", ((place(1, 2), q(2)),), (spring + (q(3),),)), ("1 0 0", ((place(0, 1), ONE),), ()),
                                        ("0 0 0", (), ()), ("0 0 1/2", (), (spring + (q("1/2"),),))):
            told = rig_with(made, list(qs(guess)))
            self.assertIs(type(told), Rig)
            self.assertTrue(told.arms == arms)
            self.same((told.weights, told.springs), (weights, springs))


# Of the unknowns of two letters: three numbers.
RIGHT_FACTS = (("still",), ("rests", (UP, LEFT)), ("pushes", (UP, LEFT), 1, 1), ("pushes", (SLANT, LEFT), 2, -1), ("rises", (UP, UP), (DOWN, SLANT)),
               ("more", 0, 2), ("more", 2, 2), ("more", 1, 0), ("none", 0), ("none", 2))
BAD_FACTS = tuple(("fact", thing) for thing in ODD_THINGS + (
    5, "still", (), ("still", 1), ("Still",), ("rests",), ("rests", (UP, UP), 1), ("pushes", (UP, UP), 1), ("pushes", (UP, UP), 1, 1, 1), ("rises", (UP, UP)),
    ("rises", (UP, UP), (UP, UP), 0), ("more", 0), ("more", 0, 1, 2), ("none",), ("none", 0, 0), (None,), (["still"],), (b"still",), ("stil",), {0: "still"},
    (0,), ("",), (("still",),), ("most", 0, 1))) + tuple(
    ("pose", (form, pose) + rest) for _, pose in BAD_POSES for form, rest in (("rests", ()), ("pushes", (9, 9)), ("rises", (None,)), ("rises", ((UP, UP),)))) + tuple(
    ("pose", ("rises", (UP, UP), pose)) for _, pose in BAD_POSES) + tuple(
    ("letter", ("pushes", (UP, UP), letter, side)) for letter in ODD_THINGS + (0, 3, -1, ONE, (1,)) for side in (1, None)) + tuple(
    ("side", ("pushes", (UP, UP), 1, side)) for side in ODD_THINGS + (0, 2, -2, ONE, 1.0, -1.0, (1,))) + tuple(
    ("number", ("none", number)) for number in ODD_THINGS + (3, -1, ONE)) + tuple(
    ("number", ("more", 1, number)) for number in ODD_THINGS + (3, -1)) + tuple(("number", ("more", number, 9)) for number in ODD_THINGS + (3, -1))


class Facts(Case):
    def test_right(self):
        made = two_letters()
        for fact in RIGHT_FACTS:
            self.same(check_fact(made, fact), fact)
            loose = [[list(way) for way in part] if isinstance(part, tuple) else part for part in fact]
            self.same(check_fact(made, loose), fact)
        self.same(check_facts(made, RIGHT_FACTS[:6]), RIGHT_FACTS[:6])
        self.same(check_facts(made, [list(fact) for fact in RIGHT_FACTS[4:]]), RIGHT_FACTS[4:])
        self.same(check_facts(made, []), ())

    def test_wrong(self):
        made = two_letters()
        for what, fact in BAD_FACTS:
            told = {"index": 0, "what": what}
            self.fails(BadFact, told, check_fact, made, fact)
            self.fails(BadFact, told, fact_rows, made, fact)
            self.fails(BadFact, told, holds_fact, made, qs("1 1 1"), fact)
            self.fails(BadFact, told, check_facts, made, (fact, None))
            self.fails(BadFact, {"index": 2, "what": what}, check_facts, made, [("still",), ("none", 0), fact])
        for facts in ODD_THINGS + (5, "still", (("still",),) * 7, (None,) * 7, range(1), {0: ("still",)}):
            self.fails(BadFact, {"index": 0, "what": "many"}, check_facts, made, facts)

    def test_not_kept(self):
        pose = [list(UP), list(UP)]
        told = check_fact(two_letters(), ["rests", pose])
        pose[0][0] = None
        self.same(told, ("rests", (UP, UP)))


class Rows(Case):
    def test_example(self):
        self.same(fact_rows(example(), ("still",)), ((qs("2 -4"), False),))
        # Turned to the left, the weight pulls further left and the spring back.
        self.same(fact_rows(example(), ("pushes", (LEFT,), 1, 1)), ((qs("2 -4"), True),))
        self.same(fact_rows(example(), ("pushes", (LEFT,), 1, -1)), ((qs("-2 4"), True),))
        self.same(fact_rows(example(), ("pushes", (RIGHT,), 1, 1)), ((qs("-2 4"), True),))
        self.same(fact_rows(example(), ("more", 1, 0)), ((qs("-1 1"), True),))

    def test_by_hand(self):
        made = two_letters()
        # The rows of the weights are (0, 1, 0) and (0, 2, 2), that of the spring (1, -2, -1).
        self.same(fact_rows(made, ("still",)), ((qs("1 2 -2"), False), (qs("0 2 -1"), False), (qs("0 0 2"), False)))
        self.same(fact_rows(made, ("rests", (LEFT, UP))), ((qs("1 2 0"), False), (qs("0 0 -2"), False)))
        self.same(fact_rows(made, ("pushes", [LEFT, UP], 2, -1)), ((qs("0 0 2"), True),))
        self.same(fact_rows(made, ["rises", (UP, UP), (UP, DOWN)]), ((qs("0 -4 -2"), True),))
        self.same(fact_rows(made, ("more", 2, 0)), ((qs("-1 0 1"), True),))
        self.same(fact_rows(made, ("more", 1, 1)), ((qs("0 0 0"), True),))
        self.same(fact_rows(made, ("none", 1)), ((qs("0 1 0"), False),))

    def test_rows_say_what_facts_say(self):
        draws = Draws("facts")
        count = {}
        for _ in range(150):
            made = drawn_unknowns(draws)
            fact = drawn_fact(draws, made)
            guess = tuple(draws.random.choice((ZERO, ONE, draws.positive())) for _ in range(len(made)))
            if draws.random.random() < 0.2:
                guess = (ZERO,) * len(made)
            rows = fact_rows(made, fact)
            self.assertIs(type(rows), tuple)
            for row, strict in rows:
                self.assertEqual((type(row), len(row), type(strict)), (tuple, len(made), bool))
            sums = [sum(frac(number) * frac(worth) for number, worth in zip(row, guess)) for row, _ in rows]
            holds = all(total > 0 if strict else total == 0 for total, (_, strict) in zip(sums, rows))
            said = says(made, guess, fact)
            self.assertEqual(holds, said, fact)
            self.assertIs(holds_fact(made, guess, fact), said)
            self.assertIs(holds_fact(made, list(guess), list(fact)), said)
            count[fact[0], said] = count.get((fact[0], said), 0) + 1
            self.check_numbers(made, guess, fact, sums)
        self.assertEqual(len(count), 12, count)

    def check_numbers(self, made, guess, fact, sums):
        """The sums are just what the fact speaks of."""
        rig = rig_with(made, guess)
        if fact[0] == "still":
            self.assertEqual(sums, [frac(couplings_of(rig).coupling(*pair)) for pair in pairs_of(made.arms.letters)])
        if fact[0] == "rests":
            self.assertEqual(sums, [frac(push) for push in pushes_at(rig, fact[1])])
        if fact[0] == "pushes":
            self.assertEqual(sums, [frac(push_at(rig, fact[1], fact[2])) * fact[3]])
        if fact[0] == "rises":
            self.assertEqual(sums, [frac(work_at(rig, fact[2])) - frac(work_at(rig, fact[1]))])


def says(made, guess, fact):
    """Whether a fact holds, by its words."""
    rig = rig_with(made, guess)
    if fact[0] == "still":
        return is_still(rig)
    if fact[0] == "rests":
        return rests_in(rig, fact[1])
    if fact[0] == "pushes":
        return frac(push_at(rig, fact[1], fact[2])) * fact[3] > 0
    if fact[0] == "rises":
        return frac(work_at(rig, fact[2])) > frac(work_at(rig, fact[1]))
    return frac(guess[fact[1]]) > frac(guess[fact[2]]) if fact[0] == "more" else guess[fact[1]] == ZERO


def drawn_unknowns(draws, letters=None):
    arms = free(letters or draws.random.randint(1, 3))
    places = [draws.small_place(arms) for _ in range(draws.random.randint(0, 3))]
    spans = [(draws.small_place(arms), draws.small_place(arms)) for _ in range(draws.random.randint(0 if places else 1, 3))]
    return Unknowns(arms, places, spans)


def drawn_fact(draws, made):
    """A fact of any form, in about half of all poses all letters are at quarters."""
    def pose():
        if draws.random.random() < 0.5:
            return tuple(draws.random.choice((UP, LEFT, DOWN, RIGHT)) for _ in range(made.arms.letters))
        return draws.pose(made.arms)

    def number():
        return draws.random.randrange(len(made))

    form = draws.random.choice(("still", "rests", "pushes", "rises", "more", "none"))
    return {"still": lambda: ("still",), "rests": lambda: ("rests", pose()), "rises": lambda: ("rises", pose(), pose()),
            "pushes": lambda: ("pushes", pose(), draws.random.randint(1, made.arms.letters), draws.random.choice((1, -1))),
            "more": lambda: ("more", number(), number()), "none": lambda: ("none", number())}[form]()


if __name__ == "__main__":
    unittest.main()
