"""changes.py [11.1], [11.2]."""
import unittest

from stillarms.changes import apply_change, apply_changes, check_form
from stillarms.errors import BadChange
from stillarms.ratios import ONE
from stillarms.rigs import Rig
from tests.cases import MAST, NO_RATIOS, ODD_THINGS, Case, balanced, lamp, lamp_rig, place, q
from tests.test_feels import BAD_PLACES

WEIGHT = ("weight", place(0, 1), q(3))
SPRING = ("spring", place(MAST, 4), place(1, 1), q("1/2"))
DROP = ("drop", 0)
CUT = ("cut", 1)
FORMS = (WEIGHT, SPRING, DROP, CUT)

BAD_FORMS = tuple(("change", thing) for thing in ODD_THINGS + (
    5, "drop", (), ("drop",), ("drop", 0, 0), ("cut",), ("cut", 0, 0), ("weight", place(0, 1)), WEIGHT + (1,), SPRING[:3], SPRING + (1,), ("Drop", 0), (None, 0),
    (["drop"], 0), (b"drop", 0), ("", 0), ("spring", place(0, 1), ONE), ("weight", place(0, 1), place(0, 1), ONE), {0: "drop", 1: 0}, (0, 0), ("weights", place(0, 1), ONE))) + tuple(
    ("place", ("weight", thing, None)) for thing in BAD_PLACES) + tuple(
    ("place", ("spring", thing, place(0, 1), None)) for thing in BAD_PLACES) + tuple(
    ("place", ("spring", place(0, 1), thing, ONE)) for thing in BAD_PLACES) + tuple(
    ("amount", WEIGHT[:2] + (thing,)) for thing in NO_RATIOS + (q(0), q(-1))) + tuple(
    ("strength", SPRING[:3] + (thing,)) for thing in NO_RATIOS + (q(0), q(-1))) + tuple(
    ("number", (word, thing)) for word in ("drop", "cut") for thing in ODD_THINGS + (-1, ONE))


class Forms(Case):
    def test_right(self):
        for change in FORMS + (("drop", 99), ("cut", 10 ** 40)):
            self.assertIsNone(check_form(lamp(), change))
            self.assertIsNone(check_form(lamp(), [list(part) if isinstance(part, tuple) and isinstance(part[1], tuple) else part for part in change]))

    def test_wrong(self):
        rig = lamp_rig()
        for what, change in BAD_FORMS:
            told = {"index": 0, "what": what}
            self.fails(BadChange, told, check_form, lamp(), change)
            self.fails(BadChange, told, apply_change, rig, change)
            self.fails(BadChange, told, apply_changes, rig, (change, None))
            self.fails(BadChange, {"index": 2, "what": what}, apply_changes, rig, [WEIGHT, DROP, change])


def full(weights, springs):
    return Rig(lamp(), [(place(0, 1), ONE)] * weights, [(place(0, 1), place(1, 1), ONE)] * springs)


class Applying(Case):
    def test_one(self):
        rig = lamp_rig()
        self.assertTrue(apply_change(rig, WEIGHT) == rig.with_weight(place(0, 1), q(3)))
        self.assertTrue(apply_change(rig, ["weight", [0, ONE], q(3)]) == rig.with_weight(place(0, 1), q(3)))
        self.assertTrue(apply_change(rig, SPRING) == rig.with_spring(*SPRING[1:]))
        self.assertTrue(apply_change(rig, ["spring", [MAST, q(4)], [1, ONE], q("1/2")]) == rig.with_spring(*SPRING[1:]))
        for number in (0, 1):
            self.assertTrue(apply_change(rig, ("drop", number)) == rig.without_weight(number))
            self.assertTrue(apply_change(rig, ["cut", number]) == rig.without_spring(number))
        self.assertTrue(rig == lamp_rig())

    def test_many_and_absent(self):
        for rig, change in ((full(8, 0), WEIGHT), (full(0, 12), SPRING)):
            self.fails(BadChange, {"index": 0, "what": "many"}, apply_change, rig, change)
            self.fails(BadChange, {"index": 1, "what": "many"}, apply_changes, full(8, 12), [("drop", 0) if change is SPRING else ("cut", 0), change])
        self.assertEqual(len(apply_change(full(7, 12), WEIGHT)), 20)
        self.assertEqual(len(apply_change(full(8, 11), SPRING)), 20)
        for rig, change in ((full(0, 3), ("drop", 0)), (full(3, 0), ("cut", 0)), (full(3, 3), ("drop", 3)), (full(3, 3), ("cut", 3)), (full(8, 12), ("cut", 10 ** 40))):
            self.fails(BadChange, {"index": 0, "what": "absent"}, apply_change, rig, change)
        # A fault of form comes first.
        self.fails(BadChange, {"index": 0, "what": "amount"}, apply_change, full(8, 0), WEIGHT[:2] + (1,))

    def test_in_order(self):
        rig = balanced()
        self.assertTrue(apply_changes(rig, ()) == rig)
        self.assertTrue(apply_changes(rig, []) == rig)
        # The numbers are those behind the changes before.
        told = apply_changes(rig, [("weight", place(0, 7), ONE), ("drop", 0), ("weight", place(0, 8), ONE), ("drop", 0), ("cut", 0)])
        self.same((told.weights, told.springs), (((place(0, 8), ONE),), ()))
        self.fails(BadChange, {"index": 1, "what": "absent"}, apply_changes, rig, (DROP, DROP))
        self.fails(BadChange, {"index": 1, "what": "absent"}, apply_changes, rig, (DROP, DROP, None))
        self.assertEqual(len(apply_changes(rig, (WEIGHT,) * 7)), 9)
        self.fails(BadChange, {"index": 7, "what": "many"}, apply_changes, rig, (WEIGHT,) * 8)
        self.assertTrue(rig == balanced())

    def test_pool(self):
        self.assertEqual(len(apply_changes(lamp_rig(), (WEIGHT, DROP) * 4)), 4)
        for changes in ODD_THINGS + (5, "drop", (WEIGHT, DROP) * 4 + (WEIGHT,), (None,) * 9, range(1), {0: DROP}):
            self.fails(BadChange, {"index": 0, "what": "pool"}, apply_changes, lamp_rig(), changes)


if __name__ == "__main__":
    unittest.main()
