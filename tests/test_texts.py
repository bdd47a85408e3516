"""armtext.py, rigtext.py, posetext.py [1.11] to [1.13]."""
import unittest

from stillarms.arms import Arms
from stillarms.armtext import arm_text, arms_of, place_of, place_text
from stillarms.directions import DOWN, LEFT, RIGHT, UP, direction_by
from stillarms.errors import BadText
from stillarms.posetext import pose_of, pose_text
from stillarms.ratios import ONE, ZERO
from stillarms.rigs import Rig
from stillarms.rigtext import rig_of, rig_text
from tests.cases import MAST, Case, Draws, lamp, lamp_rig, q, tree

NO_TEXTS = (None, True, 0, 1.5, b"mast:1", ["mast:1"], ("mast:1",), (MAST, ONE), {}, {"mast:1": 1}, object())
MOST = "9" * 300
MORE = "1" + "0" * 300


class TextCase(Case):
    def bad(self, number, what, function, *args):
        self.fails(BadText, {"number": number, "what": what}, function, *args)


class PlaceTexts(TextCase):
    def test_written(self):
        self.assertEqual(place_text((MAST, q(4))), "mast:4")
        self.assertEqual(place_text([0, q("1/2")]), "0:1/2")
        self.assertEqual(place_text((5, q("-7/3"))), "5:-7/3")

    def test_read_back(self):
        arms = tree()
        for bar in range(MAST, 6):
            for mark in ("0", "-1/2", "12", MOST, "1/" + MOST):
                place = (bar, q(mark))
                self.same(place_of(arms, place_text(place)), place)

    def test_no_places(self):
        for text in ("", ":", "mast", "mast:", ":1", "0", "0:", "2:1", "00:1", "-1:1", "+0:1", " 0:1", "0 :1", "0: 1",
                     "0:1 ", "0:2/4", "0:-0", "0:1:1", "0::1", "Mast:1", "MAST:1", "0:" + MORE, "0:1/" + MORE,
                     "0:1\n", "0.0:1", "0/1", "none:1", "\u0660:1", "mast:\u0661", MOST + ":1"):
            self.bad(0, "place", place_of, lamp(), text)
        self.bad(0, "place", place_of, lamp(), "6:1")
        self.bad(0, "place", place_of, tree(), "6:1")

    def test_no_texts(self):
        for thing in NO_TEXTS:
            self.bad(0, "text", place_of, lamp(), thing)
            self.bad(0, "text", arms_of, thing)
            self.bad(0, "text", rig_of, lamp(), thing)
            self.bad(0, "text", pose_of, lamp(), thing)


class ArmTexts(TextCase):
    def test_written(self):
        self.assertEqual(arm_text(lamp()), "mast 0 1\n0 2 2")
        self.assertEqual(arm_text(tree()), "mast 1/2 1\n0 2 0\n1 -1 2\n0 3 3\n3 1/3 2\n2 5 4")
        self.assertEqual(arm_text(Arms(((MAST, ZERO, 1),))), "mast 0 1")

    def test_read_back(self):
        draws = Draws("arm texts")
        for arms in [lamp(), tree()] + [draws.arms() for _ in range(60)]:
            self.assertTrue(arms_of(arm_text(arms)) == arms)
        self.assertEqual(arms_of("mast " + MOST + " 1").bars[0][1], (int(MOST), 1))

    def test_parts(self):
        for text in ("", " ", "mast", "mast 0", "mast 0 1 ", " mast 0 1", "mast  0 1", "mast 0 1 1", "x", "mast\t0\t1"):
            self.bad(0, "parts", arms_of, text)
        self.bad(1, "parts", arms_of, "mast 0 1\n")
        self.bad(1, "parts", arms_of, "mast 0 1\n\n0 1 1")
        self.bad(0, "parts", arms_of, "\nmast 0 1")

    def test_host(self):
        for word in ("0", "1", "-1", "Mast", "", "00", "x", "5"):
            self.bad(0, "host", arms_of, word + " 0 1")
        for word in ("1", "2", "-1", "00", "0/1", "01"):
            self.bad(1, "host", arms_of, "mast 0 1\n" + word + " 0 1")
        self.assertEqual(arms_of("mast 0 1\nmast 0 1\n1 0 1\n2 0 1").bars[3][0], 2)

    def test_mark_and_letter(self):
        for word in ("x", "", "2/4", "01", "-0", "1/1", MORE, "1/" + MORE, "1.5"):
            self.bad(1, "mark", arms_of, "mast 0 1\n0 " + word + " 1")
        for word in ("x", "", "5", "-1", "01", "1/1", "+1", "4/2", MORE, "\u0661"):
            self.bad(1, "letter", arms_of, "mast 0 1\n0 1 " + word)
        self.bad(0, "letter", arms_of, "mast 0 1\r\n0 1 1")

    def test_many_and_gap(self):
        row = "mast 0 1"
        self.assertEqual(len(arms_of("\n".join([row] * 6))), 6)
        self.bad(6, "many", arms_of, "\n".join([row] * 7))
        self.bad(6, "many", arms_of, "\n".join([row] * 20))
        self.bad(6, "many", arms_of, "\n".join([row] * 6 + [""]))
        self.bad(0, "gap", arms_of, "mast 0 2")
        self.bad(0, "gap", arms_of, "mast 0 0")
        self.bad(0, "gap", arms_of, "mast 0 1\nmast 0 3\nmast 0 4")

    def test_first_fault_of_several(self):
        self.bad(0, "host", arms_of, "x x x\nx")
        self.bad(0, "mark", arms_of, "mast x x\nx")
        self.bad(0, "letter", arms_of, "mast 0 x\nx")
        self.bad(1, "parts", arms_of, "mast 0 2\nx x x x\nx x x")
        self.bad(3, "letter", arms_of, "\n".join(["mast 0 1"] * 3 + ["0 0 9"] * 5))


class RigTexts(TextCase):
    def test_written(self):
        self.assertEqual(rig_text(Rig(lamp())), "")
        self.assertEqual(rig_text(Rig(lamp(), (((0, q(2)), ONE),))), "weight 1 at 0:2")
        self.assertEqual(rig_text(Rig(lamp(), (), (((MAST, q(4)), (0, ONE), q("1/2")),))),
                         "spring 1/2 from mast:4 to 0:1")
        self.assertEqual(rig_text(lamp_rig()), "weight 2 at 1:3\nweight 1/2 at 0:1\n"
                         "spring 1/2 from mast:4 to 0:1\nspring 3 from mast:1 to 1:1")

    def test_read_back(self):
        draws = Draws("rig texts")
        for rig in [Rig(lamp()), lamp_rig()] + [draws.rig() for _ in range(60)]:
            self.assertTrue(rig_of(rig.arms, rig_text(rig)) == rig)

    def test_word(self):
        for text in (" ", "x", "\n", "Weight 1 at 0:2", "weights 1 at 0:2", " weight 1 at 0:2", "1", "0"):
            self.bad(0, "word", rig_of, lamp(), text)
        for text in ("weight 1 at 0:2\n", "weight 1 at 0:2\n\nweight 1 at 0:2", "weight 1 at 0:2\nx y z"):
            self.bad(1, "word", rig_of, lamp(), text)

    def test_order(self):
        spring, weight = "spring 1 from 0:1 to 0:2", "weight 1 at 0:2"
        self.assertEqual(len(rig_of(lamp(), weight + "\n" + spring)), 2)
        self.bad(1, "order", rig_of, lamp(), spring + "\n" + weight)
        self.bad(2, "order", rig_of, lamp(), weight + "\n" + spring + "\nweight")

    def test_parts(self):
        for text in ("weight", "weight 1", "weight 1 at", "weight 1 in 0:2", "weight 1 at 0:2 ", "weight  1 at 0:2",
                     "weight 1 at 0:2 0:3", "weight 1  0:2", "spring", "spring 1 from 0:1 to", "spring 1 to 0:1 from 0:2",
                     "spring 1 from 0:1 at 0:2", "spring 1 at 0:1 to 0:2", "spring 1 from 0:1 to 0:2 ",
                     "spring 1 at 0:2", "weight 1 from 0:1 to 0:2", "spring 1 from 0:1 to 0:2 0:3"):
            self.bad(0, "parts", rig_of, lamp(), text)

    def test_amount_and_strength(self):
        for word in ("", "x", "0", "-1", "2/4", "01", "-1/2", MORE, "1/" + MORE, "1.0"):
            self.bad(0, "amount", rig_of, lamp(), f"weight {word} at 0:2")
            self.bad(1, "strength", rig_of, lamp(), f"weight 1 at 0:2\nspring {word} from 0:1 to 0:2")
        self.assertEqual(rig_of(lamp(), f"weight {MOST} at 0:2").weights[0][1], (int(MOST), 1))

    def test_place(self):
        for word in ("", "x", "0", "2:1", "mast:", "0:2/4", "0:" + MORE, "-1:1"):
            self.bad(0, "place", rig_of, lamp(), f"weight 1 at {word}")
            self.bad(0, "place", rig_of, lamp(), f"spring 1 from {word} to 0:2")
            self.bad(0, "place", rig_of, lamp(), f"spring 1 from 0:2 to {word}")

    def test_many(self):
        weight, spring = "weight 1 at 0:2", "spring 1 from 0:1 to 0:2"
        self.assertEqual(len(rig_of(lamp(), "\n".join([weight] * 8 + [spring] * 12))), 20)
        self.bad(8, "many", rig_of, lamp(), "\n".join([weight] * 9))
        self.bad(8, "many", rig_of, lamp(), "\n".join([weight] * 30 + ["x"]))
        self.bad(12, "many", rig_of, lamp(), "\n".join([spring] * 13))
        self.bad(20, "many", rig_of, lamp(), "\n".join([weight] * 8 + [spring] * 13))

    def test_first_fault_of_several(self):
        weight, spring = "weight 1 at 0:2", "spring 1 from 0:1 to 0:2"
        self.bad(0, "parts", rig_of, lamp(), "weight 0 in 9:9\nx")
        self.bad(0, "amount", rig_of, lamp(), "weight 0 at 9:9\nx")
        self.bad(0, "place", rig_of, lamp(), "weight 1 at 9:9\nx")
        self.bad(0, "strength", rig_of, lamp(), "spring 0 from 9:9 to 9:9\nx")
        self.bad(8, "place", rig_of, lamp(), "\n".join([weight] * 8 + ["weight 1 at 9:9"]))
        self.bad(12, "strength", rig_of, lamp(), "\n".join([spring] * 12 + ["spring 0 from 9:9 to 9:9"]))
        self.bad(1, "order", rig_of, lamp(), spring + "\nweight 0 x")


class PoseTexts(TextCase):
    def test_written(self):
        self.assertEqual(pose_text((direction_by(q("1/2")), DOWN)), "1/2 down")
        self.assertEqual(pose_text([list(UP), LEFT, RIGHT, DOWN]), "0 1 -1 down")
        self.assertEqual(pose_text((direction_by(q("-7/3")),)), "-7/3")

    def test_read_back(self):
        draws = Draws("pose texts")
        for _ in range(60):
            arms = draws.arms()
            pose = draws.pose(arms)
            self.same(pose_of(arms, pose_text(pose)), pose)
        self.assertEqual(pose_text(pose_of(lamp(), MOST + " 1/" + MOST)), MOST + " 1/" + MOST)

    def test_many(self):
        for text in ("", "0", "0 0 0", "0 0 ", " 0 0", "0  0", "down", "x x x"):
            self.bad(0, "many", pose_of, lamp(), text)

    def test_direction(self):
        for word in ("", "x", "Down", "up", "2/4", "-0", "01", MORE, "1/" + MORE, "0\n", "END", "None"):
            self.bad(0, "direction", pose_of, lamp(), word + " 0")
            self.bad(1, "direction", pose_of, lamp(), "0 " + word)
            self.bad(0, "direction", pose_of, lamp(), word + " " + word)
        self.bad(0, "direction", pose_of, Arms(((MAST, ZERO, 1),)), "")


if __name__ == "__main__":
    unittest.main()
