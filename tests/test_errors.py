"""errors.py [0.7]: each class directly under ArmError, with its attributes."""
import unittest

from stillarms import errors
from tests.cases import Case

LISTED = """BadRatio(what), BadPlace(), BadArms(index, what), NoBar(number), BadSize(), BadOrder(),
BadRig(index, what), NoSuch(number), OtherArms(), BadText(number, what), BadSpot(), BadDirection(), BadHalf(),
BadQuarters(), BadPose(index), NoLetter(letter), BadLength(), BadCouplings(index, what), NoPair(one, other),
OtherLetters(), BadLot(), BadWorks(), BadBrakes(index), BadPins(index), BadStretch(index, what), BadNumbers(index),
BadChoice(index), BadShares(index), BadCount(count), BadTask(index, what), BadPool(index, what), BadStrengths(index),
BadPlaces(index, what), BadCounterweights(index), BadLoads(index, what), BadSlide(index, what), BadAmounts(),
BadSettings(), BadGrid(what), TooMixed(letters), BadLock(index, what), BadSpread(index, what), NoTwin(place),
BadUnknowns(index, what), BadGuess(index), BadFact(index, what), BadNumber(number), Clashing(),
BadChange(index, what), BadWish(index, what), NothingDone()"""


def listed():
    for entry in LISTED.replace("\n", " ").split("), "):
        name, names = entry.strip(")").split("(")
        yield name, [word for word in names.split(", ") if word]


class Errors(Case):
    def test_top(self):
        self.assertEqual(errors.ArmError.__bases__, (ValueError,))

    def test_each_class_is_directly_under_arm_error(self):
        count = 0
        for name, _ in listed():
            self.assertEqual(getattr(errors, name).__bases__, (errors.ArmError,), name)
            count += 1
        self.assertEqual(count, 51)

    def test_nothing_else_stands_there(self):
        classes = [name for name, thing in vars(errors).items() if isinstance(thing, type)]
        self.assertEqual(sorted(classes), sorted(["ArmError"] + [name for name, _ in listed()]))

    def test_attributes_by_position_and_by_name(self):
        for name, names in listed():
            made = getattr(errors, name)
            values = [object() for _ in names]
            told = dict(zip(names, values))
            self.assertEqual(vars(made(*values)), told, name)
            self.assertEqual(vars(made(**told)), told, name)

    def test_wrong_counts_of_arguments(self):
        for name, names in listed():
            if names:
                self.assertRaises(TypeError, getattr(errors, name))
                self.assertRaises(TypeError, getattr(errors, name), *[0 for _ in range(len(names) + 1)])

    def test_raised_and_caught(self):
        with self.assertRaises(ValueError) as caught:
            raise errors.BadArms(3, "mark")
        self.assertEqual((caught.exception.index, caught.exception.what), (3, "mark"))


if __name__ == "__main__":
    unittest.main()
