"""The errors of the package, those of later parts too."""


class ArmError(ValueError):
    """What every error of this package is."""


class BadRatio(ArmError):
    """A top, bottom, divisor or text makes no ratio."""
    def __init__(self, what):
        self.what = what


class BadPlace(ArmError):
    """A thing is no place of the arms."""


class BadArms(ArmError):
    """Bars make no arms."""
    def __init__(self, index, what):
        self.index = index
        self.what = what


class NoBar(ArmError):
    """There is no bar of this number."""
    def __init__(self, number):
        self.number = number


class BadSize(ArmError):
    """A size or step is no ratio or not one that is let."""


class BadOrder(ArmError):
    """A thing is no arrangement of the letters from 1 on."""


class BadRig(ArmError):
    """Weights or springs make no rig."""
    def __init__(self, index, what):
        self.index = index
        self.what = what


class NoSuch(ArmError):
    """There is no weight, spring or span of this number."""
    def __init__(self, number):
        self.number = number


class OtherArms(ArmError):
    """Two rigs are on unlike arms."""


class BadText(ArmError):
    """A text tells no such thing."""
    def __init__(self, number, what):
        self.number = number
        self.what = what


class BadSpot(ArmError):
    """A thing is no spot."""


class BadDirection(ArmError):
    """A thing is no direction."""


class BadHalf(ArmError):
    """A thing is no half."""


class BadQuarters(ArmError):
    """A thing is no whole number of quarters."""


class BadPose(ArmError):
    """A thing is no pose of the arms."""
    def __init__(self, index):
        self.index = index


class NoLetter(ArmError):
    """There is no letter of this number."""
    def __init__(self, letter):
        self.letter = letter


class BadLength(ArmError):
    """A thing is no length."""


class BadCouplings(ArmError):
    """Rows make no table of couplings."""
    def __init__(self, index, what):
        self.index = index
        self.what = what


class NoPair(ArmError):
    """Two things are no pair of letters."""
    def __init__(self, one, other):
        self.one = one
        self.other = other


class OtherLetters(ArmError):
    """Two things have unlike counts of letters."""


class BadLot(ArmError):
    """A thing is no lot that is let."""


class BadWorks(ArmError):
    """A thing is no row of works of flat poses."""


class BadBrakes(ArmError):
    """A thing is no row of brakes."""
    def __init__(self, index):
        self.index = index


class BadPins(ArmError):
    """A thing is no row of pins."""
    def __init__(self, index):
        self.index = index


class BadStretch(ArmError):
    """A stretch is not let."""
    def __init__(self, index, what):
        self.index = index
        self.what = what


class BadNumbers(ArmError):
    """Numbers do not lie in their stretches."""
    def __init__(self, index):
        self.index = index


class BadChoice(ArmError):
    """A thing is no choice of corners."""
    def __init__(self, index):
        self.index = index


class BadShares(ArmError):
    """A thing is no row of shares."""
    def __init__(self, index):
        self.index = index


class BadCount(ArmError):
    """A thing is no count."""
    def __init__(self, count):
        self.count = count


class BadTask(ArmError):
    """Columns, target and costs make no task."""
    def __init__(self, index, what):
        self.index = index
        self.what = what


class BadPool(ArmError):
    """A thing is no pool."""
    def __init__(self, index, what):
        self.index = index
        self.what = what


class BadStrengths(ArmError):
    """A thing is no row of strengths."""
    def __init__(self, index):
        self.index = index


class BadPlaces(ArmError):
    """A thing is no row of places."""
    def __init__(self, index, what):
        self.index = index
        self.what = what


class BadCounterweights(ArmError):
    """A thing is no row of counterweights."""
    def __init__(self, index):
        self.index = index


class BadLoads(ArmError):
    """A thing is no row of loads."""
    def __init__(self, index, what):
        self.index = index
        self.what = what


class BadSlide(ArmError):
    """A thing is no row of slides."""
    def __init__(self, index, what):
        self.index = index
        self.what = what


class BadAmounts(ArmError):
    """Amounts do not fit their loads."""


class BadSettings(ArmError):
    """Settings do not fit their slides."""


class BadGrid(ArmError):
    """A thing is no grid."""
    def __init__(self, what):
        self.what = what


class TooMixed(ArmError):
    """A block's least value is not told."""
    def __init__(self, letters):
        self.letters = letters


class BadLock(ArmError):
    """A thing is no row of locks."""
    def __init__(self, index, what):
        self.index = index
        self.what = what


class BadSpread(ArmError):
    """A thing is no row of places to share a weight."""
    def __init__(self, index, what):
        self.index = index
        self.what = what


class NoTwin(ArmError):
    """A place has no twin on other arms."""
    def __init__(self, place):
        self.place = place


class BadUnknowns(ArmError):
    """Places and spans make no unknowns."""
    def __init__(self, index, what):
        self.index = index
        self.what = what


class BadGuess(ArmError):
    """A thing is no guess."""
    def __init__(self, index):
        self.index = index


class BadFact(ArmError):
    """A thing is no fact."""
    def __init__(self, index, what):
        self.index = index
        self.what = what


class BadNumber(ArmError):
    """There is no unknown number of this number."""
    def __init__(self, number):
        self.number = number


class Clashing(ArmError):
    """No guess fits the facts."""


class BadChange(ArmError):
    """A thing is no change that can be applied."""
    def __init__(self, index, what):
        self.index = index
        self.what = what


class BadWish(ArmError):
    """A thing is no wish."""
    def __init__(self, index, what):
        self.index = index
        self.what = what


class NothingDone(ArmError):
    """There is no change to take back."""
