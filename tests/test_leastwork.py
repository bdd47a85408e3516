"""leastwork.py [8.4] to [8.9]."""
import cmath
import itertools
import math
import unittest
from fractions import Fraction

from stillarms.armtext import arm_text, arms_of
from stillarms.couplings import Couplings, constant_of, couplings_by, couplings_of, pairs_of, zero_couplings
from stillarms.errors import BadPlace, TooMixed
from stillarms.leastwork import (Lowest, blocks_of, greatest_value, greatest_work, least_value, least_work, lowest_fault, lowest_of,
                                 most_between, never_farther, square_range)
from stillarms.poses import flat_poses, square_between
from stillarms.ratios import ONE, ZERO
from stillarms.rigs import Rig
from stillarms.rigtext import rig_of, rig_text
from stillarms.stillness import work_by
from stillarms.works import work_at
from tests.cases import MAST, ODD_THINGS, Case, Draws, balanced, frac, free, lamp, lamp_rig, place, q, qs


def table(letters, **coupled):
    """The table with these numbers for pairs such as c01, and 0 elsewhere."""
    return couplings_by(letters, [q(coupled.get(f"c{one}{other}", 0)) for one, other in pairs_of(letters)])


def nearly_least(couplings, tries=12):
    """Nearly the least value, found by turning one letter after the other to where it is least."""
    rows = [[0.0] * (couplings.letters + 1) for _ in range(couplings.letters + 1)]
    for (one, other), number in zip(pairs_of(couplings.letters), couplings.numbers):
        rows[one][other] = rows[other][one] = float(frac(number))
    best = math.inf
    for start in range(tries):
        ways = [cmath.exp(1j * start * (letter + 1) * (letter + 0.37)) for letter in range(couplings.letters + 1)]
        for turn in range(600):
            before = list(ways)
            if turn and max(abs(one - other) for one, other in zip(before, last)) < 1e-9:
                break
            last = before
            for letter, row in enumerate(rows):
                pull = sum(number * way for number, way in zip(row, ways))
                if abs(pull) > 1e-12:
                    ways[letter] = -pull / abs(pull)
        value = sum(rows[one][other] * (ways[one] * ways[other].conjugate()).real for one, other in pairs_of(couplings.letters))
        best = min(best, value)
    return best


def drawn_table(draws, letters=None):
    """A table with many pairs that are not coupled, and else numbers of about one size, as bent and mixed blocks have."""
    letters = letters or draws.random.randint(1, 4)
    numbers = [ZERO if draws.random.random() < 0.3 else q(Fraction(draws.random.randint(4, 9), draws.random.choice((-5, 3, 4))))
               for _ in pairs_of(letters)]
    return couplings_by(letters, numbers)


RING = table(3, c01=-1, c12=-1, c23=-1, c03=1)


class Blocks(Case):
    def test_by_hand(self):
        for letters, names, blocks in (
                (1, "", ()), (1, "01", ((0, 1),)), (4, "", ()), (2, "01 12", ((0, 1), (1, 2))), (2, "01 02 12", ((0, 1, 2),)),
                (2, "02", ((0, 2),)), (3, "03 12 23", ((0, 3), (1, 2), (2, 3))), (3, "01 12 23 03", ((0, 1, 2, 3),)),
                (4, "01 12 02 23 34 24", ((0, 1, 2), (2, 3, 4))), (4, "01 12 23 34 04", ((0, 1, 2, 3, 4),)),
                (4, "03 04 34 13 23", ((0, 3, 4), (1, 3), (2, 3))), (4, "01 02 03 04", ((0, 1), (0, 2), (0, 3), (0, 4))),
                (4, "12 23 13 04", ((0, 4), (1, 2, 3))), (3, "01 02 03 12 13 23", ((0, 1, 2, 3),)), (3, "01 12 02 13 23", ((0, 1, 2, 3),)),
                (4, "01 12 23 03 24", ((0, 1, 2, 3), (2, 4))), (4, "12 34", ((1, 2), (3, 4))), (4, "24 34 23 02", ((0, 2), (2, 3, 4)))):
            couplings = table(letters, **{"c" + name: 1 + at for at, name in enumerate(names.split())})
            self.same(blocks_of(couplings), blocks)
            self.same(blocks_of(couplings.opposite()), blocks)

    def test_drawn(self):
        draws = Draws("blocks")
        for _ in range(60):
            couplings = drawn_table(draws)
            links = [pair for pair, number in zip(pairs_of(couplings.letters), couplings.numbers) if number != ZERO]

            def together(lot):
                reached = {lot[0]}
                for _ in lot:
                    reached |= {end for pair in links for end in pair if set(pair) <= set(lot) and set(pair) & reached}
                return reached == set(lot)

            fast = [lot for size in range(2, 6) for lot in itertools.combinations(range(couplings.letters + 1), size)
                    if together(lot) and all(together([other for other in lot if other != letter]) for letter in lot)]
            blocks = sorted(lot for lot in fast if not any(set(lot) < set(other) for other in fast))
            self.same(blocks_of(couplings), tuple(blocks))
            # Each coupled pair is in just one block.
            for pair in links:
                self.assertEqual(len([block for block in blocks if set(pair) <= set(block)]), 1)


class LowestCase(Case):
    def squares_fit(self, couplings, value, squares):
        self.assertIs(type(squares), tuple)
        for amount, row in squares:
            self.assertGreater(frac(amount), 0)
            self.assertIs(type(row), tuple)
            self.assertEqual(len(row), couplings.letters + 1)
            self.assertTrue(any(number != ZERO for number in row))
        for (one, other), number in zip(pairs_of(couplings.letters), couplings.numbers):
            self.assertEqual(2 * sum(frac(amount) * frac(row[one]) * frac(row[other]) for amount, row in squares), frac(number))
        self.assertEqual(sum(frac(amount) * frac(number) ** 2 for amount, row in squares for number in row), -frac(value))

    def judged(self, couplings):
        told = lowest_of(couplings)
        self.assertIs(type(told), Lowest)
        self.squares_fit(couplings, told.value, told.squares)
        coupled = [pair for pair, number in zip(pairs_of(couplings.letters), couplings.numbers) if number != ZERO]
        self.assertIs(type(told.cosines), tuple)
        self.same([row[:2] for row in told.cosines], coupled)
        total = sum(frac(couplings.coupling(one, other)) * frac(cosine) for one, other, cosine in told.cosines)
        self.assertEqual(total, frac(told.value))
        self.assertEqual(told.is_bent, any(abs(frac(cosine)) < 1 for _, _, cosine in told.cosines))
        self.assertIsNone(lowest_fault(couplings, told))
        return told


class LowestOf(LowestCase):
    def test_examples(self):
        told = self.judged(table(2, c01=1, c02=1, c12=1))
        self.same((told.value, told.cosines), (q("-3/2"), tuple(pair + (q("-1/2"),) for pair in pairs_of(2))))
        self.assertEqual(len(told.squares), 1)
        self.assertIs(told.is_bent, True)
        told = self.judged(table(2, c01=2, c02=2, c12=1))
        self.same((told.value, told.cosines), (q(-3), ((0, 1, q(-1)), (0, 2, q(-1)), (1, 2, ONE))))
        self.assertIs(told.is_bent, False)
        self.fails(TooMixed, {"letters": (0, 1, 2, 3)}, lowest_of, RING)
        self.fails(TooMixed, {"letters": (0, 1, 2, 3)}, lowest_fault, RING, None)
        self.fails(TooMixed, {"letters": (0, 1, 2, 3)}, least_value, RING)

    def test_two_letters(self):
        self.same(vars(self.judged(zero_couplings(3))), {"value": ZERO, "cosines": (), "squares": ()})
        for text, value, cosine in (("5/2", "-5/2", -1), ("-5/2", "-5/2", 1)):
            told = self.judged(Couplings((qs(text),)))
            self.same((told.value, told.cosines, told.is_bent), (q(value), ((0, 1, q(cosine)),), False))
        told = self.judged(table(3, c03=-2, c12=3))
        self.same((told.value, told.cosines), (q(-5), ((0, 3, ONE), (1, 2, q(-1)))))

    def test_three_letters(self):
        # 1 / m of the three pairs are the sides of a triangle in a bent block: 1/2, 1/2, 1/3 here.
        told = self.judged(table(2, c01=2, c02=2, c12=3))
        self.same((told.value, told.cosines), (q("-11/3"), ((0, 1, q("-1/3")), (0, 2, q("-1/3")), (1, 2, q("-7/9")))))
        # Two signs turned leave the block bent, with two cosines turned.
        told = self.judged(table(2, c01=-2, c02=-2, c12=3))
        self.same(told.cosines, ((0, 1, q("1/3")), (0, 2, q("1/3")), (1, 2, q("-7/9"))))
        # One or three signs turned make it flat.
        self.same(self.judged(table(2, c01=-2, c02=2, c12=3)).cosines, ((0, 1, ONE), (0, 2, q(-1)), (1, 2, q(-1))))
        self.same(self.judged(table(2, c01=-2, c02=-2, c12=-3)).value, q(-7))
        # Where the triangle is just flat, so is the block: 1/6 = 1/12 + 1/12.
        told = self.judged(table(2, c01=6, c02=12, c12=12))
        self.same((told.value, told.is_bent), (q(-18), False))
        self.same(told.cosines, ((0, 1, ONE), (0, 2, q(-1)), (1, 2, q(-1))))
        self.assertIs(self.judged(table(2, c01=q_text("601/100"), c02=12, c12=12)).is_bent, True)
        self.assertIs(self.judged(table(2, c01=q_text("599/100"), c02=12, c12=12)).is_bent, False)

    def test_first_flat_choice(self):
        # The rings of four letters have several flat choices of least value; the last letter changes fastest.
        told = self.judged(table(3, c01=-1, c12=-1, c23=-1, c03=-1))
        self.same(told.cosines, ((0, 1, ONE), (0, 3, ONE), (1, 2, ONE), (2, 3, ONE)))
        told = self.judged(table(2, c01=q_text("1"), c02=q_text("2"), c12=q_text("2")))
        self.same(told.cosines, ((0, 1, ONE), (0, 2, q(-1)), (1, 2, q(-1))))
        # 1, 1, -1 and 1, -1, 1 are as good: the former comes first; the block is bent, so neither counts.
        self.assertIs(self.judged(table(2, c01=1, c02=1, c12=1)).is_bent, True)

    def test_four_letters_of_equal_flat_choices(self):
        # A ring with three of 1 and one so weak that it may be against the grain: w = -1/3 with three of 1 is just even.
        told = self.judged(table(3, c01=-1, c12=-1, c23=-1, c03=q_text("1/3")))
        self.same(told.value, q("-8/3"))
        self.same(told.cosines, ((0, 1, ONE), (0, 3, ONE), (1, 2, ONE), (2, 3, ONE)))
        self.fails(TooMixed, {"letters": (0, 1, 2, 3)}, lowest_of, table(3, c01=-1, c12=-1, c23=-1, c03=q_text("34/100")))
        self.judged(table(3, c01=-1, c12=-1, c23=-1, c03=q_text("33/100")))

    def test_two_flat_choices_of_least_value(self):
        # Both 1, 1, 1, 1 and 1, 1, -1, -1 have the least value; so has any pose with letters 0, 1 and 2, 3 together.
        told = self.judged(table(3, c01=-4, c23=-4, c02=2, c03=-2, c12=-2, c13=2))
        self.same((told.value, told.cosines), (q(-8), tuple(pair + (ONE,) for pair in pairs_of(3))))
        # Now it is 1, 1, 1, -1 and 1, 1, -1, 1 that have it.
        told = self.judged(table(3, c01=-4, c23=4, c02=2, c03=2, c12=-2, c13=-2))
        self.same((told.value, [row[2] for row in told.cosines]), (q(-8), [ONE, ONE, q(-1), ONE, q(-1), q(-1)]))

    def test_five_letters(self):
        ring = dict(c01=-4, c12=-4, c23=-4, c34=-4)
        told = self.judged(table(4, c04=1, **ring))
        self.same((told.value, told.is_bent), (q(-15), False))
        self.same(lowest_of(table(4, c04=q_text("-1/2"), **ring)).value, q("-33/2"))
        self.fails(TooMixed, {"letters": (0, 1, 2, 3, 4)}, lowest_of, table(4, c04=q_text("101/100"), **ring))

    def test_first_mixed_block(self):
        shifted = table(4, c12=-1, c23=-1, c34=-1, c14=1, c01=5)
        self.fails(TooMixed, {"letters": (1, 2, 3, 4)}, lowest_of, shifted)
        # Blocks of three and two letters beside it do not help.
        self.fails(TooMixed, {"letters": (0, 1, 2, 3)}, lowest_of, table(4, c01=-1, c12=-1, c23=-1, c03=1, c24=1))

    def test_bent_blocks_that_share_a_letter(self):
        told = self.judged(table(4, c01=1, c02=1, c12=1, c23=2, c24=2, c34=3))
        self.same(told.value, q(Fraction(-3, 2) - Fraction(11, 3)))
        self.assertEqual(len(told.cosines), 6)

    def test_drawn(self):
        draws = Draws("least values")
        count = {"mixed": 0, "bent": 0, "flat": 0}
        for _ in range(220):
            couplings = drawn_table(draws)
            try:
                told = self.judged(couplings)
            except TooMixed as error:
                count["mixed"] += 1
                self.assertGreater(len(error.letters), 3)
                self.assertIn(error.letters, blocks_of(couplings))
                continue
            count["bent" if told.is_bent else "flat"] += 1
            self.assertAlmostEqual(nearly_least(couplings), float(frac(told.value)), places=5)
            for _ in range(3):
                pose = tuple(draws.direction() for _ in range(couplings.letters))
                self.assertGreaterEqual(frac(work_by(couplings, pose)), frac(told.value))
        self.assertTrue(all(many > 8 for many in count.values()), count)

    def test_mixed_blocks_have_no_least_flat_choice(self):
        draws = Draws("mixed blocks")
        mixed = 0
        for _ in range(60):
            couplings = drawn_table(draws, 3)
            flat = min(frac(work_by(couplings, pose)) for pose in flat_poses(free(3)))
            least = nearly_least(couplings)
            blocks = [block for block in blocks_of(couplings) if len(block) > 3]
            try:
                lowest_of(couplings)
            except TooMixed:
                mixed += 1
                self.assertLess(least, float(flat) - 1e-9)
                continue
            if blocks:
                self.assertAlmostEqual(least, float(flat), places=5)
        self.assertGreater(mixed, 5)


def q_text(text):
    return Fraction(text)


class Judge(LowestCase):
    def judge(self, couplings, told, **changed):
        return lowest_fault(couplings, Lowest(**{**vars(told), **changed}))

    def test_right(self):
        couplings = table(2, c01=1, c02=1, c12=1)
        told = lowest_of(couplings)
        self.assertIsNone(self.judge(couplings, told, squares=((q("1/2"), qs("1 1 1")),)))
        self.assertIsNone(self.judge(couplings, told, squares=((q("1/8"), qs("-2 -2 -2")),)))
        self.assertIsNone(self.judge(couplings, told, squares=((q("1/4"), qs("1 1 1")),) * 2))
        self.assertIsNone(self.judge(couplings, told, squares=[[q("1/2"), list(qs("1 1 1"))]], cosines=[list(row) for row in told.cosines]))
        self.assertIsNone(lowest_fault(zero_couplings(2), Lowest(ZERO, (), ())))

    def test_value(self):
        couplings = table(2, c01=1, c02=1, c12=1)
        told = lowest_of(couplings)
        for value in ODD_THINGS + (q("3/2"), q("-1"), ZERO, -1.5, (-3, 2, 1), [-3, 2], (-6, 4)):
            self.assertEqual(self.judge(couplings, told, value=value, cosines=None), "value")
        single = Couplings((qs("1"),))
        self.assertEqual(self.judge(single, lowest_of(single), value=(-1, True)), "value")

    def test_cosines(self):
        couplings = table(3, c01=1, c02=1, c12=1, c13=2)
        told = lowest_of(couplings)
        rows = told.cosines
        for cosines in ODD_THINGS + (5, (), rows[:-1], rows[1:], rows + rows[:1], rows[::-1], rows[:-1] + (None,), rows[:-1] + (rows[-1][:2],),
                                     rows[:-1] + ((1, 3, ONE),), rows[:-1] + ((3, 1, q(-1)),), rows[:-1] + ((True, 3, q(-1)),),
                                     rows[:-1] + ((1, 3.0, q(-1)),), rows[:-1] + ((1, 3, -1),), rows[:-1] + ((1, 3, (-1, True)),),
                                     ((False, 1, q("-1/2")),) + rows[1:], ((0, True, q("-1/2")),) + rows[1:],
                                     rows[:2] + ((0, 3, ZERO),) + rows[2:]):
            self.assertEqual(self.judge(couplings, told, cosines=cosines, squares=None), "cosines", cosines)

    def test_squares(self):
        couplings = table(2, c01=1, c02=1, c12=1)
        told = lowest_of(couplings)
        one = (q("1/2"), qs("1 1 1"))
        for squares in ODD_THINGS + (5, (), (one, one), ((ONE, qs("1 1 1")),), ((q("1/2"), qs("1 1 -1")),), ((q("1/2"), qs("1 1")),),
                                     ((q("1/2"), qs("1 1 1 0")),), (one, (ONE, qs("0 0 0"))), (one, (ZERO, qs("1 0 0"))), (one, (ONE, qs("1 0 0"))),
                                     (one, None), (one[:1],), (one + (1,),), ((q("1/2"), (1, 1, 1)),), ((True, qs("1 1 1")),),
                                     (one, (q(-1), qs("1 0 0")), (ONE, qs("1 0 0")))):
            self.assertEqual(self.judge(couplings, told, squares=squares), "squares", squares)

    def test_drawn(self):
        draws = Draws("judged least values")
        for _ in range(40):
            couplings = drawn_table(draws, 2)
            told = self.judged(couplings)
            if couplings.is_zero():
                continue
            self.assertEqual(self.judge(couplings, told, squares=told.squares[1:]), "squares")
            self.assertEqual(self.judge(couplings, told, cosines=told.cosines[1:]), "cosines")
            self.assertEqual(self.judge(couplings, told, value=q(frac(told.value) + 1)), "value")

    def test_equality(self):
        made = Lowest(ZERO, (), ())
        self.assertTrue(made == Lowest(ZERO, (), ()))
        self.unlike_all(made, (Lowest(ONE, (), ()), Lowest(ZERO, ((0, 1, ONE),), ()), Lowest(ZERO, (), ((ONE, ()),)), None, (ZERO, (), ())))
        for cosines, bent in (((), False), (((0, 1, ONE),), False), (((0, 1, q(-1)),), False), (((0, 1, ZERO),), True),
                              (((0, 1, ONE), (0, 2, q("-99/100"))), True)):
            self.assertIs(Lowest(ZERO, cosines, ()).is_bent, bent)


class Works(Case):
    def test_values(self):
        couplings = table(2, c01=1, c02=1, c12=1)
        self.same((least_value(couplings), greatest_value(couplings)), qs("-3/2 3"))
        self.same((least_value(couplings.opposite()), greatest_value(couplings.opposite())), qs("-3 3/2"))
        self.same((least_value(zero_couplings(4)), greatest_value(zero_couplings(4))), (ZERO, ZERO))

    def test_works(self):
        self.same((least_work(balanced()), greatest_work(balanced()), most_between(balanced())), qs("17/4 17/4 0"))
        bare = balanced().bare()
        self.same((least_work(bare), greatest_work(bare), most_between(bare)), qs("-2 2 4"))
        rig = lamp_rig()
        self.assertLess(frac(least_work(rig)), frac(greatest_work(rig)))
        empty = Rig(lamp(), (), ())
        self.same((least_work(empty), greatest_work(empty), most_between(empty)), (ZERO, ZERO, ZERO))

    def mixed_rig(self, turned):
        """A rig with a ring of four letters, of which one pair or three have the other sign."""
        signs = {"01": -1, "12": -1, "23": -1, "03": 1, "04": 1}
        springs = []
        for name, sign in signs.items():
            one, other = int(name[0]) - 1, int(name[1]) - 1
            springs.append((place(one, 1), place(other, -sign * turned), ONE))
        return Rig(free(4), (), springs)

    def test_too_mixed(self):
        for turned in (1, -1):
            rig = self.mixed_rig(turned)
            # A ring with one sign turned is mixed, and so is one with three.
            for asked in (least_work, greatest_work, most_between):
                self.fails(TooMixed, {"letters": (0, 1, 2, 3)}, asked, rig)
        # Couplings all 1 of five letters: the least is mixed, the greatest is flat.
        couplings = couplings_by(4, [ONE] * 10)
        self.fails(TooMixed, {"letters": (0, 1, 2, 3, 4)}, least_value, couplings)
        self.same(greatest_value(couplings), q(10))
        rig = Rig(free(4), (), [(place(one, 1), place(other, -1), ONE) for one, other in itertools.combinations(range(MAST, 4), 2)])
        self.fails(TooMixed, {"letters": (0, 1, 2, 3, 4)}, least_work, rig)
        self.same(greatest_work(rig), q(20))
        self.fails(TooMixed, {"letters": (0, 1, 2, 3, 4)}, most_between, rig)
        rig = Rig(free(4), (), [(place(one, 1), place(other, 1), ONE) for one, other in itertools.combinations(range(MAST, 4), 2)])
        self.same(least_work(rig), ZERO)
        self.fails(TooMixed, {"letters": (0, 1, 2, 3, 4)}, greatest_work, rig)
        self.fails(TooMixed, {"letters": (0, 1, 2, 3, 4)}, most_between, rig)

    def test_greatest_of_drawn_tables(self):
        draws = Draws("greatest values")
        found = 0
        for _ in range(60):
            couplings = drawn_table(draws)
            try:
                greatest = greatest_value(couplings)
            except TooMixed as error:
                self.fails(TooMixed, vars(error), least_value, couplings.opposite())
                continue
            found += 1
            self.same(least_value(couplings.opposite()), q(-frac(greatest)))
        self.assertGreater(found, 30)

    def test_works_lie_between(self):
        draws = Draws("least works")
        found = 0
        for _ in range(80):
            rig = draws.rig()
            try:
                least, greatest = frac(least_work(rig)), frac(greatest_work(rig))
            except TooMixed:
                continue
            found += 1
            self.assertEqual(frac(most_between(rig)), greatest - least)
            couplings = couplings_of(rig)
            self.assertAlmostEqual(nearly_least(couplings) + float(frac(constant_of(rig))), float(least), places=4)
            self.assertAlmostEqual(float(frac(constant_of(rig))) - nearly_least(couplings.opposite()), float(greatest), places=4)
            for _ in range(4):
                self.assertTrue(least <= frac(work_at(rig, draws.pose(rig.arms))) <= greatest)
            for pose in flat_poses(rig.arms):
                self.assertTrue(least <= frac(work_at(rig, pose)) <= greatest)
        self.assertGreater(found, 25)

    def test_other_rigs(self):
        draws = Draws("least works of other rigs")
        found = 0
        for _ in range(40):
            rig = draws.rig(draws.arms(draws.random.randint(1, 3)))
            try:
                least, between = frac(least_work(rig)), frac(most_between(rig))
            except TooMixed:
                continue
            found += 1
            order = list(range(1, rig.arms.letters + 1))
            draws.random.shuffle(order)
            self.same(least_work(rig.renamed(order)), q(least))
            self.same(least_work(rig_of(arms_of(arm_text(rig.arms)), rig_text(rig))), q(least))
            # A shift lifts all weights alike and leaves springs as they are.
            step = draws.ratio()
            lifted = sum(frac(amount) for _, amount in rig.weights) * frac(step)
            shifted = Rig(rig.arms, [(where, amount) for where, amount in rig.weights], rig.springs).shifted(step)
            self.same(least_work(shifted), q(least + lifted))
            self.same(most_between(shifted), q(between))
            size = draws.positive()
            bare, springs = Rig(rig.arms, rig.weights), Rig(rig.arms, (), rig.springs)
            self.same(most_between(bare.grown(size)), q(frac(most_between(bare)) * frac(size)))
            self.same(most_between(springs.grown(size)), q(frac(most_between(springs)) * frac(size) ** 2))
        self.assertGreater(found, 15)


class Distances(Case):
    def test_by_hand(self):
        arms = lamp()
        # From the foot of the mast to the end of both bars: 2 and 3 long, between 1 and 5 away.
        foot, end = place(MAST, 0), place(1, 3)
        self.same(square_range(arms, end, foot, foot, foot), qs("1 25"))
        self.same(square_range(arms, foot, foot, end, foot), qs("-25 -1"))
        self.same(square_range(arms, end, foot, foot, end), qs("0 0"))
        self.assertIs(never_farther(arms, end, foot, foot, end), True)
        self.assertIs(never_farther(arms, end, foot, place(MAST, 5), foot), True)
        self.assertIs(never_farther(arms, end, foot, place(MAST, q_text("49/10")), foot), False)
        self.assertIs(never_farther(arms, place(MAST, 1), foot, list(end), [MAST, ZERO]), True)
        self.assertIs(never_farther(arms, place(MAST, 2), foot, end, foot), False)

    def test_drawn(self):
        draws = Draws("ranges of squares")
        count = {True: 0, False: 0}
        for _ in range(80):
            arms = draws.arms(draws.random.randint(1, 3))
            places = [draws.place(arms) for _ in range(4)]
            try:
                low, high = square_range(arms, *places)
            except TooMixed:
                continue
            count[frac(high) <= 0] += 1
            self.assertIs(never_farther(arms, *places), frac(high) <= 0)
            self.same(square_range(arms, *places[2:], *places[:2]), (q(-frac(high)), q(-frac(low))))
            for _ in range(4):
                pose = draws.pose(arms)
                apart = frac(square_between(arms, pose, *places[:2])) - frac(square_between(arms, pose, *places[2:]))
                self.assertTrue(frac(low) <= apart <= frac(high))
        self.assertTrue(count[False] > 20, count)

    def test_greatest_alone(self):
        # Of a span to another one: the least or the greatest alone may be mixed.
        draws = Draws("greatest alone")
        seen = set()
        for _ in range(150):
            arms = draws.arms(4)
            places = [draws.place(arms) for _ in range(4)]
            told = []
            for asked in (never_farther, square_range):
                try:
                    told.append(asked(arms, *places))
                except TooMixed:
                    told.append("mixed")
            seen.add((told[0] == "mixed", told[1] == "mixed"))
        self.assertIn((False, True), seen)
        self.assertIn((True, True), seen)
        self.assertNotIn((True, False), seen)

    def test_errors(self):
        right = place(0, 1)
        for thing in ODD_THINGS + ((2, ONE), (0, 1), (True, ONE)):
            for index in range(4):
                places = [right] * 4
                places[index] = thing
                self.fails(BadPlace, {}, square_range, lamp(), *places)
                self.fails(BadPlace, {}, never_farther, lamp(), *places)


if __name__ == "__main__":
    unittest.main()
