"""slidejudges.py [7.10]."""
import unittest

from stillarms.adjusters import NoRule, NoSetting, Rule, Settings, rule_for, settings_for
from stillarms.couplings import Couplings, couplings_by, zero_couplings
from stillarms.ratios import ONE, ZERO
from stillarms.slidejudges import rule_fault, settings_fault
from stillarms.slides import corner_amounts
from tests.cases import NO_RATIOS, ODD_THINGS, Case, Draws, balanced, frac, q, qs
from tests.test_adjusters import LOAD, MARK
from tests.test_slides import draw_case

# At 11 the mark of the mast is too low for a weight of 3.
SHORT = ("end", 0, 0, ZERO, q(11))
NO_ROWS = ODD_THINGS + (5, "1", range(1))


def judged(amount, told, slides=(MARK,), brakes=None):
    return settings_fault(balanced(), LOAD, slides, qs(amount), told, brakes=brakes)


class OfSettings(Case):
    def test_right(self):
        self.assertIsNone(judged("1", Settings(qs("4"))))
        self.assertIsNone(judged("1", Settings(list(qs("4")))))
        self.assertIsNone(settings_fault(balanced(), [list(LOAD[0])], [list(MARK)], list(qs("1")), Settings(qs("4"))))
        self.assertIsNone(judged("1", Settings(qs("4")), brakes=qs("0")))
        self.assertIsNone(judged("1", Settings(qs("6")), brakes=list(qs("1"))))
        self.assertIsNone(judged("1", Settings(()), slides=()))
        self.assertIsNone(settings_fault(balanced(), (), (), (), Settings(())))

    def test_kind(self):
        for told in ODD_THINGS + (5, qs("4"), Rule(LOAD, (), ()), NoRule(qs("3"), None)):
            self.assertEqual(judged("1", told), "kind")

    def test_row(self):
        for row in NO_ROWS + ((), qs("4 4"), qs("99 4"), (4,), (None,), (4.0,)):
            self.assertEqual(judged("1", Settings(row)), "row")
        for thing in NO_RATIOS:
            self.assertEqual(judged("1", Settings((thing,))), "row")
        self.assertEqual(settings_fault(balanced(), (), (), (), Settings((ONE,))), "row")
        # A row of two of which one is outside and the other is no ratio.
        two = (MARK, ("amount", 0, ZERO, ONE))
        self.assertEqual(settings_fault(balanced(), (), two, (), Settings((q(99), 1))), "row")

    def test_stretch(self):
        for text in ("-1", "13", "-1/9", "109/9"):
            self.assertEqual(judged("1", Settings(qs(text))), "stretch")
        two = (MARK, ("amount", 0, ZERO, ONE))
        self.assertEqual(settings_fault(balanced(), (), two, (), Settings(qs("1 2"))), "stretch")

    def test_push(self):
        for text in ("0", "12", "3", "401/100"):
            self.assertEqual(judged("1", Settings(qs(text))), "push")
        self.assertEqual(judged("1", Settings(qs("4")), brakes=qs("0")), None)
        self.assertEqual(judged("1", Settings(qs("401/100")), brakes=qs("0")), "push")
        self.assertEqual(judged("1", Settings(qs("601/100")), brakes=qs("1")), "push")
        self.assertEqual(judged("1", Settings(qs("199/100")), brakes=qs("1")), "push")
        self.assertEqual(judged("0", Settings(()), slides=()), "push")


class OfPapers(Case):
    """With the slide at most at 11, the coupling is 6 - 11/2 or more for a weight of 3."""

    def judged(self, table, shares=None, brakes=None, amount="3"):
        return judged(amount, NoSetting(table, shares), (SHORT,), brakes)

    def test_right(self):
        for text in ("1", "1/9", "70"):
            self.assertIsNone(self.judged(Couplings((qs(text),))))
        self.assertIsNone(self.judged(Couplings((qs("1"),)), qs("1"), qs("0")))
        self.assertIsNone(self.judged(Couplings((qs("2"),)), list(qs("2")), qs("49/100")))
        self.assertIsNone(self.judged(Couplings((qs("2"),)), qs("5/2"), qs("1/9")))

    def test_table(self):
        for table in ODD_THINGS + (5, (qs("1"),), zero_couplings(2), Settings(())):
            self.assertEqual(self.judged(table), "table")
            self.assertEqual(self.judged(table, qs("1"), qs("1")), "table")

    def test_shares(self):
        table = Couplings((qs("1"),))
        for shares in (ODD_THINGS + ((), qs("1")))[1:]:
            self.assertEqual(self.judged(table, shares), "shares")
        for shares in ODD_THINGS + ((), qs("1 1"), qs("-1"), qs("1/2"), (1,), (True,), qs("99/100"), 1, ONE):
            self.assertEqual(self.judged(table, shares, qs("0")), "shares")
        for thing in NO_RATIOS:
            self.assertEqual(self.judged(table, (thing,), qs("0")), "shares")
        # The shares are asked ahead of the sum.
        self.assertEqual(self.judged(zero_couplings(1), qs("0"), None), "shares")

    def test_shares_of_two_letters(self):
        draws = Draws("papers of two letters")
        rig = draws.rig(draws.arms(2), 0, 0).with_weight((0, ONE), q(1000))
        table = couplings_by(2, qs("1 2 -3"))
        for shares, fault in (("1 2", None), ("1 3", None), ("1 199/100", "shares"), ("99/100 3", "shares"),
                              ("2 2", None), ("0 9", "shares")):
            shares = qs(shares)
            told = settings_fault(rig, (), (), (), NoSetting(table, shares), brakes=qs("0 0"))
            self.assertIn(told, (fault, "sum"))
            self.assertEqual(told == "shares", fault == "shares")
        table = couplings_by(2, qs("0 0 -3"))
        for shares, wrong in (("1 2", False), ("3 0", False), ("0 3", False), ("1 1", True), ("29/10 0", True)):
            told = settings_fault(rig, (), (), (), NoSetting(table, qs(shares)), brakes=qs("0 0"))
            self.assertEqual(told == "shares", wrong)

    def test_sum(self):
        for text in ("0", "-1"):
            self.assertEqual(self.judged(Couplings((qs(text),))), "sum")
        self.assertEqual(self.judged(Couplings((qs("1"),)), None, None, "11/4"), "sum")
        self.assertIsNone(self.judged(Couplings((qs("1"),)), None, None, "277/100"))
        # Above 0 with the slide at 0, yet not at 11.
        self.assertEqual(self.judged(Couplings((qs("1"),)), None, None, "1"), "sum")
        self.assertEqual(self.judged(Couplings((qs("1"),)), qs("1"), qs("1/2")), "sum")
        self.assertEqual(self.judged(Couplings((qs("1"),)), qs("2"), qs("1/4")), "sum")
        self.assertIsNone(self.judged(Couplings((qs("1"),)), qs("1"), qs("49/100")))


class Drawn(Case):
    def test_what_is_told_is_right(self):
        draws = Draws("judged settings")
        count = {Settings: 0, NoSetting: 0}
        for _ in range(100):
            rig, loads, slides = draw_case(draws)
            amounts = draws.random.choice(list(corner_amounts(loads)))
            brakes = None if draws.random.random() < 0.3 else tuple(q(draws.random.randint(0, 40)) for _ in range(rig.arms.letters))
            told = settings_for(rig, loads, slides, amounts, brakes=brakes)
            count[type(told)] += 1
            self.assertIsNone(settings_fault(rig, loads, slides, amounts, told, brakes=brakes))
            if type(told) is Settings:
                if slides:
                    high = told.row[:-1] + (q(frac(slides[-1][-1]) + 1),)
                    self.assertEqual(settings_fault(rig, loads, slides, amounts, Settings(high), brakes=brakes), "stretch")
                    self.assertEqual(settings_fault(rig, loads, slides, amounts, Settings(told.row[:-1]), brakes=brakes), "row")
                if brakes is None:
                    # Nothing shows that there are no settings where there are some.
                    paper = NoSetting(couplings_by(rig.arms.letters, [draws.ratio() for _ in told_pairs(rig)]), None)
                    self.assertEqual(settings_fault(rig, loads, slides, amounts, paper), "sum")
                continue
            turned = NoSetting(told.table.opposite(), told.shares)
            self.assertEqual(settings_fault(rig, loads, slides, amounts, turned, brakes=brakes), "sum")
            lows = Settings(tuple(slide[-2] for slide in slides))
            self.assertEqual(settings_fault(rig, loads, slides, amounts, lows, brakes=brakes), "push")
            if brakes is not None:
                less = NoSetting(told.table, (ZERO,) * rig.arms.letters)
                self.assertEqual(settings_fault(rig, loads, slides, amounts, less, brakes=brakes), "shares")
        self.assertTrue(all(many > 20 for many in count.values()), count)


def told_pairs(rig):
    return zero_couplings(rig.arms.letters).numbers


CORNERS = (qs("0"), qs("3"))
ROWS = (qs("0"), qs("12"))


class OfRules(Case):
    def judged(self, loads=LOAD, corners=CORNERS, rows=ROWS, brakes=None):
        return rule_fault(balanced(), LOAD, (MARK,), Rule(loads, corners, rows), brakes=brakes)

    def test_right(self):
        self.assertIsNone(self.judged())
        self.assertIsNone(self.judged(rows=[list(row) for row in ROWS]))
        self.assertIsNone(rule_fault(balanced(), [list(LOAD[0])], [list(MARK)], Rule(LOAD, CORNERS, ROWS)))
        self.assertIsNone(self.judged(rows=qs_rows("1 11"), brakes=qs("1/2")))
        self.assertIsNone(rule_fault(balanced(), (), (), Rule((), ((),), ((),))))

    def test_kind(self):
        for told in ODD_THINGS + (5, Settings(qs("4")), NoSetting(zero_couplings(1), None)):
            self.assertEqual(rule_fault(balanced(), LOAD, (MARK,), told), "kind")

    def test_loads(self):
        for loads in ODD_THINGS + ((), [LOAD[0]], (list(LOAD[0]),), LOAD * 2, ((0, ZERO, q(4)),), ((1, ZERO, q(3)),),
                                   ((False, ZERO, q(3)),), ((0.0, ZERO, q(3)),), ((0, (False, 1), q(3)),), ((0, (0, True), q(3)),), ((0, ZERO, (3, True)),)):
            self.assertEqual(self.judged(loads=loads), "loads")
            self.assertEqual(self.judged(loads=loads, corners=None, rows=None), "loads")

    def test_corners(self):
        for corners in ODD_THINGS + ((), CORNERS[:1], CORNERS[::-1], list(CORNERS), (list(CORNERS[0]), CORNERS[1]),
                                     CORNERS + (qs("3"),), qs_rows("0 2"), (((False, 1),), qs("3")), (qs("0"), ((3, True),))):
            self.assertEqual(self.judged(corners=corners), "corners")
            self.assertEqual(self.judged(corners=corners, rows=None), "corners")

    def test_rows(self):
        for rows in NO_ROWS + ((), ROWS[:1], ROWS + ROWS):
            self.assertEqual(self.judged(rows=rows), "rows")

    def test_corner_by_corner(self):
        for rows, word in (((None, ROWS[1]), "row"), ((ROWS[0], ()), "row"), ((ROWS[0], (12,)), "row"), ((ROWS[0], qs("12 12")), "row"),
                           ((qs("-1"), ROWS[1]), "stretch"), ((ROWS[0], qs("13")), "stretch"), ((ROWS[0], qs("11")), "push"),
                           # All words of one corner come before those of the next one.
                           ((qs("1"), None), "push"), ((qs("-1"), None), "stretch"), ((qs("1"), qs("13")), "push"),
                           ((ROWS[0], qs("12 13")), "row")):
            self.assertEqual(self.judged(rows=rows), word)
        self.assertEqual(self.judged(rows=qs_rows("0 11"), brakes=qs("49/100")), "push")

    def test_no_rule(self):
        paper = NoSetting(Couplings((qs("1"),)), None)
        for amounts, why, word in ((qs("3"), paper, None), (qs("0"), paper, "sum"), (qs("2"), paper, "amounts"),
                                   (list(qs("3")), paper, "amounts"), ((), paper, "amounts"), (qs("3 3"), paper, "amounts"),
                                   (None, None, "amounts"), (((3, True),), paper, "amounts"), (((3.0, 1),), paper, "amounts"),
                                   (qs("3"), None, "kind"), (qs("3"), Settings(qs("11")), "kind"), (qs("0"), (), "kind"),
                                   (qs("3"), NoSetting(None, None), "table"), (qs("3"), NoSetting(paper.table, ()), "shares"),
                                   (qs("3"), NoSetting(zero_couplings(1), None), "sum")):
            self.assertEqual(rule_fault(balanced(), LOAD, (SHORT,), NoRule(amounts, why)), word, (amounts, why))
        shared = NoSetting(paper.table, qs("1"))
        self.assertIsNone(rule_fault(balanced(), LOAD, (SHORT,), NoRule(qs("3"), shared), brakes=qs("1/3")))
        self.assertEqual(rule_fault(balanced(), LOAD, (SHORT,), NoRule(qs("3"), shared), brakes=qs("1/2")), "sum")
        self.assertEqual(rule_fault(balanced(), LOAD, (SHORT,), NoRule(qs("3"), paper), brakes=qs("1/3")), "shares")

    def test_any_corner_will_do(self):
        away = ("end", 0, 0, q(5), q(11))
        low = NoRule(qs("0"), NoSetting(Couplings((qs("-1"),)), None))
        high = NoRule(qs("3"), NoSetting(Couplings((qs("1"),)), None))
        self.assertIsNone(rule_fault(balanced(), LOAD, (away,), low))
        self.assertIsNone(rule_fault(balanced(), LOAD, (away,), high))

    def test_drawn(self):
        draws = Draws("judged rules")
        count = {Rule: 0, NoRule: 0}
        for _ in range(80):
            rig, loads, slides = draw_case(draws)
            brakes = None if draws.random.random() < 0.2 else tuple(q(draws.random.randint(0, 60)) for _ in range(rig.arms.letters))
            told = rule_for(rig, loads, slides, brakes=brakes)
            count[type(told)] += 1
            self.assertIsNone(rule_fault(rig, loads, slides, told, brakes=brakes))
            if type(told) is NoRule:
                opposite = NoRule(told.amounts, NoSetting(told.why.table.opposite(), told.why.shares))
                self.assertEqual(rule_fault(rig, loads, slides, opposite, brakes=brakes), "sum")
            elif len(told.rows) > 1:
                fewer = Rule(told.loads, told.corners, told.rows[:-1])
                self.assertEqual(rule_fault(rig, loads, slides, fewer, brakes=brakes), "rows")
        self.assertTrue(all(many > 15 for many in count.values()), count)


def qs_rows(text):
    """One row of one ratio for each part of the text."""
    return tuple((ratio,) for ratio in qs(text))


if __name__ == "__main__":
    unittest.main()
