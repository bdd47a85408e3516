"""fitted.py [10.5] to [10.7]."""
import itertools
import unittest
from fractions import Fraction

from stillarms.directions import DOWN, LEFT, UP
from stillarms.errors import BadFact, BadNumber, Clashing
from stillarms.fitted import Both, Clash, Fits, Never, Sure, fit_facts, fit_fault, is_sure, share_range, sure_fault
from stillarms.ratios import ONE, ZERO
from stillarms.tasks import Solution, solve_task
from stillarms.unknown import Unknowns, check_guess, fact_rows, holds_fact
from tests.cases import MAST, ODD_THINGS, Case, Draws, frac, fracs, free, place, q, qs
from tests.test_rests import SLANT
from tests.test_unknown import BAD_FACTS, drawn_fact, drawn_unknowns, example, says, two_letters

TO_THE_LEFT = ("pushes", (LEFT,), 1, 1)
TO_THE_RIGHT = ("pushes", (LEFT,), 1, -1)
STILL = ("still",)


def three_weights():
    """Three weights at the mark 1 of one bar, and no springs: only their sizes beside one another count."""
    return Unknowns(free(1), (place(0, 1),) * 3, ())


class FitCase(Case):
    def judged(self, made, facts):
        """Whether the facts fit, what shows it being right."""
        told = fit_facts(made, facts)
        self.assertIsNone(fit_fault(made, facts, told))
        if type(told) is Fits:
            self.same(check_guess(made, told.guess), told.guess)
            self.assertTrue(all(says(made, told.guess, fact) for fact in facts))
            return True
        self.assertIs(type(told), Clash)
        rows = [row for fact in facts for row in fact_rows(made, fact)]
        self.assertIs(type(told.numbers), tuple)
        self.assertEqual(len(told.numbers), len(rows))
        strict = [frac(number) for number, (_, is_strict) in zip(told.numbers, rows) if is_strict]
        self.assertTrue(all(number >= 0 for number in strict) and any(number > 0 for number in strict))
        for index in range(len(made)):
            self.assertLessEqual(sum(frac(number) * frac(row[index]) for number, (row, _) in zip(told.numbers, rows)), 0)
        return False

    def lots(self, made, facts):
        """All least lots that clash, by asking all lots."""
        clashing = [lot for size in range(len(facts) + 1) for lot in itertools.combinations(range(len(facts)), size)
                    if not self.judged(made, [facts[index] for index in lot])]
        return tuple(lot for lot in clashing if not any(set(other) < set(lot) for other in clashing))


class Fitting(FitCase):
    def test_by_hand(self):
        for facts, fits in (((), True), ((STILL,), True), ((TO_THE_LEFT,), True), ((STILL, TO_THE_LEFT), False), ((TO_THE_LEFT, TO_THE_RIGHT), False),
                            ((TO_THE_LEFT, ("more", 1, 0)), False), ((TO_THE_LEFT, ("more", 0, 1)), True), ((STILL, ("more", 0, 1)), True),
                            ((STILL, ("more", 1, 0)), False), ((("more", 1, 1),), False), ((("none", 0), TO_THE_LEFT), False),
                            ((("none", 0), TO_THE_RIGHT), True), ((("none", 0), ("none", 1), STILL), True), ((STILL, ("none", 0), ("more", 1, 0)), False),
                            ((("rises", (UP,), (DOWN,)), STILL), False), ((("rises", (UP,), (DOWN,)), ("rests", (UP,))), True),
                            ((("rises", (UP,), (DOWN,)), ("rests", (SLANT,))), False)):
            self.assertEqual(self.judged(example(), facts), fits, facts)
            self.assertEqual(self.judged(example(), [list(fact) for fact in facts]), fits)

    def test_example(self):
        told = fit_facts(example(), (TO_THE_LEFT, ("more", 1, 0)))
        self.same(told.lots, ((0, 1),))
        self.assertEqual(2 * frac(told.numbers[0]) - frac(told.numbers[1]) <= 0 and -4 * frac(told.numbers[0]) + frac(told.numbers[1]) <= 0, True)

    def test_lots_by_hand(self):
        told = fit_facts(example(), (STILL, TO_THE_LEFT, TO_THE_RIGHT, ("none", 0)))
        self.same(told.lots, ((0, 1), (0, 2), (1, 2), (1, 3)))
        told = fit_facts(three_weights(), (("more", 0, 1), ("more", 1, 2), ("more", 2, 0), ("more", 1, 1)))
        self.same(told.lots, ((3,), (0, 1, 2)))
        # A lot that clashes while no part of it does, beside facts that are in no such lot.
        told = fit_facts(three_weights(), (("more", 0, 1), ("none", 2), ("more", 1, 0)))
        self.same(told.lots, ((0, 2),))

    def test_six_facts_with_more_rows_than_a_task_takes(self):
        arms = free(4)
        made = Unknowns(arms, [place(bar, 1) for bar in range(4)], [(place(MAST, -1), place(bar, 1)) for bar in range(4)])
        self.assertTrue(self.judged(made, (STILL,) * 6))
        told = fit_facts(made, (STILL,) * 5 + (("more", 0, 4),))
        self.assertEqual(len(told.numbers), 51)
        self.assertFalse(self.judged(made, (STILL,) * 5 + (("more", 0, 4),)))
        self.same(told.lots, tuple((index, 5) for index in range(5)))
        made = Unknowns(arms, [place(bar, 1) for bar in range(4)], [(place(MAST, 1), place(bar, 1)) for bar in range(4)])
        self.assertTrue(self.judged(made, (STILL,) * 5 + (("rests", (LEFT, LEFT, LEFT, LEFT)),)))

    def test_drawn(self):
        draws = Draws("facts that fit")
        count = {True: 0, False: 0}
        for _ in range(100):
            made = drawn_unknowns(draws)
            facts = tuple(drawn_fact(draws, made) for _ in range(draws.random.randint(0, 6)))
            count[self.judged(made, facts)] += 1
        self.assertTrue(all(many > 15 for many in count.values()), count)

    def test_drawn_lots(self):
        draws = Draws("lots of facts")
        sizes = set()
        for _ in range(30):
            made = drawn_unknowns(draws, draws.random.randint(1, 2))
            facts = tuple(drawn_fact(draws, made) for _ in range(draws.random.randint(2, 4)))
            told = fit_facts(made, facts)
            if type(told) is Clash:
                self.same(told.lots, self.lots(made, facts))
                sizes |= {len(lot) for lot in told.lots}
        self.assertLessEqual({1, 2}, sizes)

    def test_guesses_that_hold_fit(self):
        draws = Draws("facts of a guess")
        for _ in range(60):
            made = drawn_unknowns(draws)
            guess = tuple(draws.random.choice((ZERO, draws.positive())) for _ in range(len(made)))
            facts = [fact for fact in (drawn_fact(draws, made) for _ in range(12)) if says(made, guess, fact)][:6]
            self.assertTrue(self.judged(made, facts))
            self.assertIsNone(fit_fault(made, facts, Fits(guess)))

    def test_errors(self):
        made = two_letters()
        for what, fact in BAD_FACTS:
            for function, rest in ((fit_facts, ()), (fit_fault, (None,)), (is_sure, (None,)), (sure_fault, (None, None)), (share_range, (None, None))):
                self.fails(BadFact, {"index": 1, "what": what}, function, made, (STILL, fact), *rest)
        for facts in ODD_THINGS + (5, (STILL,) * 7):
            for function, rest in ((fit_facts, ()), (fit_fault, (None,)), (is_sure, (None,)), (sure_fault, (None, None)), (share_range, (None, None))):
                self.fails(BadFact, {"index": 0, "what": "many"}, function, made, facts, *rest)


class FitJudge(Case):
    def test_class(self):
        fits, clash = Fits(qs("2 1")), fit_facts(example(), (STILL, TO_THE_LEFT))
        for facts, right in (((STILL,), fits), ((STILL, TO_THE_LEFT), clash)):
            for told in (fits, clash) + ODD_THINGS + (Sure(), qs("2 1")):
                self.assertEqual(fit_fault(example(), facts, told), None if told is right else "class")

    def test_guess(self):
        for guess in ODD_THINGS + ((), qs("1"), qs("2 2"), qs("-2 -1"), qs("2 1 0"), (2, 1), (q(2), None), (q(2), (True, 1))):
            self.assertEqual(fit_fault(example(), (STILL,), Fits(guess)), "guess")
        for text, fault in (("2 1", None), ("0 0", None), ("1 1", "guess")):
            self.assertEqual(fit_fault(example(), (STILL,), Fits(qs(text))), fault)
            self.assertEqual(fit_fault(example(), (STILL,), Fits(list(qs(text)))), fault)
        self.assertEqual(fit_fault(example(), (STILL, ("more", 0, 1)), Fits(qs("0 0"))), "guess")

    def test_lots(self):
        facts = (STILL, TO_THE_LEFT, TO_THE_RIGHT)
        right = fit_facts(example(), facts)
        lots = right.lots
        self.same(lots, ((0, 1), (0, 2), (1, 2)))
        for wrong in ODD_THINGS + (5, (), lots[:2], lots[::-1], lots + ((0, 1, 2),), lots[:2] + ((2, 1),), lots[:2] + (None,), lots[:2] + (3,),
                                   ((0, True),) + lots[1:], ((False, 1),) + lots[1:], ((0, 1.0),) + lots[1:], lots + lots[:1], ((0, 1), (0, 2), (1, 3)),
                                   ((0, 1), (0, 2), (1,))):
            self.assertEqual(fit_fault(example(), facts, Clash(wrong, None)), "lots")
        self.assertIsNone(fit_fault(example(), facts, Clash([list(lot) for lot in lots], list(right.numbers))))

    def test_numbers(self):
        facts = (TO_THE_LEFT, ("more", 1, 0))
        lots = ((0, 1),)
        for text, fault in (("1 2", None), ("1 3", None), ("1 4", None), ("1 5", "numbers"), ("1 1", "numbers"), ("1/2 1", None), ("0 0", "numbers"),
                            ("-1 -2", "numbers"), ("0 1", "numbers"), ("1 2 0", "numbers"), ("1", "numbers")):
            self.assertEqual(fit_fault(example(), facts, Clash(lots, qs(text))), fault, text)
        for numbers in ODD_THINGS + (5, (), (1, 2), (ONE, None), (ONE, (2, True))):
            self.assertEqual(fit_fault(example(), facts, Clash(lots, numbers)), "numbers")
        # Rows that are not strict may have numbers below 0, and do not help alone.
        facts = (STILL, TO_THE_RIGHT)
        for text, fault in (("1 1", None), ("2 2", None), ("-1 1", "numbers"), ("1 0", "numbers"), ("0 1", "numbers")):
            self.assertEqual(fit_fault(example(), facts, Clash(lots, qs(text))), fault, text)
        facts = (STILL, TO_THE_LEFT)
        self.assertIsNone(fit_fault(example(), facts, Clash(lots, qs("-1 1"))))
        # A strict row with a number below 0 shows nothing, though all sums are below 0.
        facts = (TO_THE_LEFT, TO_THE_RIGHT, ("more", 0, 1))
        for text in ("1 0 -3", "1/3 0 -1"):
            self.assertEqual(fit_fault(example(), facts, Clash(lots, qs(text))), "numbers")
        self.assertIsNone(fit_fault(example(), facts, Clash(lots, qs("1 1 0"))))


class SureCase(Case):
    def judged(self, made, facts, question):
        told = is_sure(made, facts, question)
        self.assertIsNone(sure_fault(made, facts, question, told))
        if type(told) is Both:
            for guess, holds in ((told.yes, True), (told.no, False)):
                self.same(check_guess(made, guess), guess)
                self.assertTrue(all(says(made, guess, fact) for fact in facts))
                self.assertEqual(says(made, guess, question), holds)
        else:
            self.same(vars(told), {})
        return type(told)


class Sureness(SureCase):
    def test_by_hand(self):
        for facts, question, told in (
                ((), STILL, Both), ((STILL,), STILL, Sure), ((TO_THE_LEFT,), STILL, Never), ((STILL,), TO_THE_LEFT, Never), ((TO_THE_LEFT,), ("more", 0, 1), Sure),
                ((TO_THE_LEFT,), ("more", 1, 0), Never), ((TO_THE_RIGHT,), ("more", 1, 0), Both), ((STILL,), ("more", 0, 1), Both),
                ((STILL, ("more", 0, 1)), ("more", 0, 1), Sure), ((("none", 0), STILL), ("none", 1), Sure), ((STILL,), ("none", 1), Both),
                ((TO_THE_LEFT,), ("none", 0), Never), ((), ("more", 0, 0), Never), ((), ("rests", (UP,)), Sure), ((), ("rests", (LEFT,)), Both),
                ((STILL,), ("rests", (LEFT,)), Sure), ((), ("rises", (UP,), (UP,)), Never), ((TO_THE_RIGHT,), ("rises", (UP,), (DOWN,)), Sure)):
            self.assertIs(self.judged(example(), facts, question), told, (facts, question))
            self.assertIs(self.judged(example(), [list(fact) for fact in facts], list(question)), told)

    def test_questions_of_many_rows(self):
        made = two_letters()
        # The spring alone couples letters 1 and 2; without it the second weight alone pushes letter 2.
        self.assertIs(self.judged(made, (("none", 2),), STILL), Both)
        self.assertIs(self.judged(made, (("none", 2), ("none", 1)), ("rests", (LEFT, LEFT))), Both)
        self.assertIs(self.judged(made, (("none", 2), ("none", 1)), ("rests", (UP, LEFT))), Sure)
        self.assertIs(self.judged(made, (("none", 2), ("more", 0, 1)), STILL), Never)
        self.assertIs(self.judged(made, (("none", 2), ("none", 1), ("none", 0)), STILL), Sure)

    def test_seven_facts_are_no_more_than_six_and_a_question(self):
        facts = (TO_THE_LEFT, ("more", 0, 1)) * 3
        self.assertIs(self.judged(example(), facts, ("none", 1)), Both)
        self.assertIs(self.judged(example(), facts, TO_THE_RIGHT), Never)

    def test_drawn(self):
        draws = Draws("what is sure")
        count = {Sure: 0, Never: 0, Both: 0}
        for _ in range(140):
            made = drawn_unknowns(draws)
            facts = tuple(drawn_fact(draws, made) for _ in range(draws.random.randint(0, 3)))
            question = drawn_fact(draws, made)
            if type(fit_facts(made, facts)) is Clash:
                self.fails(Clashing, {}, is_sure, made, facts, question)
                self.fails(Clashing, {}, sure_fault, made, facts, question, None)
                continue
            told = self.judged(made, facts, question)
            count[told] += 1
            if told is Never:
                self.assertIs(type(fit_facts(made, facts + (question,))), Clash)
            else:
                self.assertIs(type(fit_facts(made, facts + (question,))), Fits)
            if told is Sure:
                for _ in range(10):
                    guess = tuple(draws.random.choice((ZERO, ONE, draws.positive())) for _ in range(len(made)))
                    if all(says(made, guess, fact) for fact in facts):
                        self.assertTrue(holds_fact(made, guess, question))
        self.assertTrue(all(many > 10 for many in count.values()), count)

    def test_errors(self):
        made = two_letters()
        for what, fact in BAD_FACTS:
            for facts in ((), (("more", 1, 1),)):
                # The question is asked ahead of whether the facts clash.
                self.fails(BadFact, {"index": 0, "what": what}, is_sure, made, facts, fact)
                self.fails(BadFact, {"index": 0, "what": what}, sure_fault, made, facts, fact, None)
        self.fails(Clashing, {}, is_sure, made, (("more", 1, 1),), STILL)
        self.fails(Clashing, {}, sure_fault, made, (("more", 1, 1),), STILL, Sure())

    def test_judge(self):
        cases = (((STILL,), STILL, Sure()), ((TO_THE_LEFT,), STILL, Never()), ((), STILL, Both(qs("2 1"), qs("1 1"))))
        for facts, question, _ in cases:
            for _, _, told in cases:
                right = type(is_sure(example(), facts, question)) is type(told)
                self.assertEqual(sure_fault(example(), facts, question, told), None if right else "class")
            for told in ODD_THINGS + (Fits(qs("2 1")),):
                self.assertEqual(sure_fault(example(), facts, question, told), "class")
        facts, question = (("more", 0, 1),), TO_THE_LEFT
        for yes, no, word in (("4 1", "2 1", None), ("4 1", "3/2 1", None), ("2 1", "2 1", "yes"), ("4 1", "4 1", "no"), ("4 1", "1 1", "no"), ("1 1", "1 1", "yes"),
                              ("4 1 1", "2 1", "yes"), ("4 1", "2", "no"), ("-4 -5", "2 1", "yes"), ("4 1", "-1 -2", "no"), ("4 0", "5 3", None)):
            self.assertEqual(sure_fault(example(), facts, question, Both(qs(yes), qs(no))), word, (yes, no))
        for thing in ODD_THINGS + ((4, 1), (q(4), None)):
            self.assertEqual(sure_fault(example(), facts, question, Both(thing, None)), "yes")
            self.assertEqual(sure_fault(example(), facts, question, Both(list(qs("4 1")), thing)), "no")


class Shares(Case):
    def test_by_hand(self):
        for facts, ends, back in (
                ((), ("0", None), ("0", None)), ((STILL,), ("2", "2"), ("1/2", "1/2")),
                # Strict facts keep off the ends, which are told all the same.
                ((TO_THE_LEFT,), ("2", None), ("0", "1/2")), ((TO_THE_RIGHT,), ("0", "2"), ("1/2", None)), ((("more", 0, 1),), ("1", None), ("0", "1")),
                ((TO_THE_RIGHT, ("more", 0, 1)), ("1", "2"), ("1/2", "1")), ((("none", 0),), ("0", "0"), None), ((("none", 1),), None, ("0", "0")),
                ((("none", 0), ("none", 1)), None, None), ((STILL, ("none", 0)), None, None)):
            for order, told in (((0, 1), ends), ((1, 0), back)):
                found = share_range(example(), facts, *order)
                self.same(found, told and tuple(None if end is None else q(end) for end in told))
                self.same(share_range(example(), [list(fact) for fact in facts], *order), found)

    def test_a_number_by_itself(self):
        self.same(share_range(example(), (), 1, 1), (ONE, ONE))
        self.same(share_range(example(), (("none", 1),), 1, 1), None)

    def test_chains(self):
        made = Unknowns(free(1), (place(0, 1), place(0, 2), place(0, 3)), ())
        facts = (("more", 0, 1), ("more", 1, 2))
        self.same(share_range(made, facts, 0, 2), (ONE, None))
        self.same(share_range(made, facts, 2, 0), (ZERO, ONE))
        self.same(share_range(made, facts + (("none", 2),), 2, 0), (ZERO, ZERO))
        self.same(share_range(made, facts + (("none", 2),), 0, 2), None)

    def test_drawn(self):
        draws = Draws("shares of numbers")
        count = {"none": 0, "no end": 0, "ends": 0, "point": 0}
        for turn in range(160):
            made = drawn_unknowns(draws)
            if turn % 2:
                made = Unknowns(free(1), [place(0, mark) for mark in (1, 2, -1)], [(place(MAST, 1), place(0, 1))])
            facts = tuple(drawn_fact(draws, made) for _ in range(draws.random.randint(0, 4)))
            if turn % 2:
                # Strict facts that hold for some guess, so that they fit.
                guess = tuple(draws.positive() for _ in range(len(made)))
                facts = [drawn_fact(draws, made) for _ in range(30)]
                facts = [fact for fact in facts if fact[0] in ("more", "pushes", "rises") and says(made, guess, fact)][:6]
            number, other = (draws.random.randrange(len(made)) for _ in range(2))
            if type(fit_facts(made, facts)) is Clash:
                self.fails(Clashing, {}, share_range, made, facts, number, other)
                continue
            told = share_range(made, facts, number, other)
            if told is None:
                count["none"] += 1
                self.assertIs(type(is_sure(made, facts, ("none", other))), Sure)
                continue
            self.assertIsNot(type(is_sure(made, facts, ("none", other))), Sure)
            least, greatest = told
            count["no end" if greatest is None else "point" if least == greatest else "ends"] += 1
            for _ in range(10):
                guess = tuple(draws.random.choice((ZERO, ONE, draws.positive())) for _ in range(len(made)))
                if guess[other] != ZERO and all(says(made, guess, fact) for fact in facts):
                    share = frac(guess[number]) / frac(guess[other])
                    self.assertGreaterEqual(share, frac(least))
                    self.assertTrue(greatest is None or share <= frac(greatest))
            self.reached(made, facts, number, other, told)
        self.assertTrue(all(many > 5 for many in count.values()), count)

    def reached(self, made, facts, number, other, told):
        """Guesses that fit come as near to the ends as one likes: rows that bring the share near an end leave some guess."""
        little = Fraction(1, 1000)
        least, greatest = frac(told[0]), None if told[1] is None else frac(told[1])
        wanted = [(least, least + little)]
        wanted.append((greatest - little, greatest) if greatest is not None else (least + 10 ** 6, least + 10 ** 7))
        rows = [row for fact in facts for row in fact_rows(made, fact)]
        for low, high in wanted:
            self.assertTrue(self.has_share(made, rows, number, other, low, high))

    def has_share(self, made, rows, number, other, low, high):
        """Whether a guess of the rows has a share from low to high, by a task of its own."""
        many = len(made)
        wanted = [(fracs(row), 1 if strict else 0, strict) for row, strict in rows]
        unit = [[Fraction(int(at == index)) for at in range(many)] for index in range(many)]
        wanted.append((unit[other], 1, True))
        wanted.append(([one - low * its for one, its in zip(unit[number], unit[other])], 0, True))
        wanted.append(([high * its - one for one, its in zip(unit[number], unit[other])], 0, True))
        columns = [tuple(q(row[index]) for row, _, _ in wanted) for index in range(many)]
        for at, (_, _, slack) in enumerate(wanted):
            if slack:
                columns.append(tuple(q(-1) if index == at else ZERO for index in range(len(wanted))))
        return type(solve_task(columns, tuple(q(goal) for _, goal, _ in wanted))) is Solution

    def test_errors(self):
        made = two_letters()
        for thing in ODD_THINGS + (3, -1, ONE):
            for facts in ((), (("more", 1, 1),)):
                self.fails(BadNumber, {"number": thing}, share_range, made, facts, thing, 9)
                self.fails(BadNumber, {"number": thing}, share_range, made, facts, 0, thing)
        self.fails(Clashing, {}, share_range, made, (("more", 1, 1),), 0, 1)
        self.fails(Clashing, {}, share_range, example(), (TO_THE_LEFT, TO_THE_RIGHT), 1, 1)

    def test_equality(self):
        self.assertTrue(Sure() == Sure() and Never() == Never() and Fits(qs("1")) == Fits(qs("1")))
        self.assertTrue(Both(qs("1"), qs("2")) == Both(qs("1"), qs("2")) and Clash(((0,),), qs("1")) == Clash(((0,),), qs("1")))
        self.unlike_all(Sure(), (Never(), None, True, Fits(())))
        self.unlike_all(Never(), (Sure(), None, False, Both(1, 1)))
        self.unlike_all(Fits(qs("1")), (Fits(qs("2")), qs("1"), Clash(qs("1"), qs("1"))))
        self.unlike_all(Clash(((0,),), qs("1")), (Clash(((1,),), qs("1")), Clash(((0,),), qs("2")), Both(((0,),), qs("1"))))
        self.unlike_all(Both(qs("1"), qs("2")), (Both(qs("2"), qs("2")), Both(qs("1"), qs("1")), Sure()))


if __name__ == "__main__":
    unittest.main()
