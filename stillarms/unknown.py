"""Weights and springs of unknown amounts and strengths, guesses at them and facts about them."""
from stillarms.arms import is_place, scale_row, take_row
from stillarms.bounds import is_from_zero
from stillarms.couplings import couplings_of
from stillarms.errors import BadFact, BadGuess, BadPose, BadUnknowns
from stillarms.poses import check_pose
from stillarms.ratios import ONE, ZERO, is_whole, product_of
from stillarms.rigs import Rig
from stillarms.rows import first_wrong, is_row, is_worded
from stillarms.stillness import push_by, work_rise

MOST_UNKNOWN = 4
MOST_FACTS = 6
# How long a fact of each form is.
FORMS = {"still": 1, "rests": 2, "pushes": 4, "rises": 3, "more": 3, "none": 2}


def _check_unknowns(arms, places, spans):
    if not is_row(places, 0, MOST_UNKNOWN) or not is_row(spans, 0, MOST_UNKNOWN) or len(places) + len(spans) == 0:
        raise BadUnknowns(0, "many")
    for index, place in enumerate(places):
        if not is_place(arms, place):
            raise BadUnknowns(index, "place")
    for index, span in enumerate(spans):
        if not is_row(span, 2, 2) or not is_place(arms, span[0]) or not is_place(arms, span[1]):
            raise BadUnknowns(index, "span")


class Unknowns:
    """Weights at places and springs at spans, whose numbers nobody knows."""

    def __init__(self, arms, places, spans):
        _check_unknowns(arms, places, spans)
        self.arms = arms
        self.places = tuple([tuple(place) for place in places])
        self.spans = tuple([(tuple(one), tuple(other)) for one, other in spans])

    def __len__(self):
        return len(self.places + self.spans)

    def __eq__(self, other):
        return (isinstance(other, Unknowns) and self.arms == other.arms
                and self.places == other.places and self.spans == other.spans)


def check_guess(unknowns, guess):
    index = first_wrong(guess, len(unknowns), is_from_zero)
    if index is not None:
        raise BadGuess(index)
    return tuple(guess)


def rig_with(unknowns, guess):
    guess = check_guess(unknowns, guess)
    many = len(unknowns.places)
    weights = [(place, amount) for place, amount in zip(unknowns.places, guess[:many]) if amount != ZERO]
    springs = [(one, other, strength) for (one, other), strength in zip(unknowns.spans, guess[many:])
               if strength != ZERO]
    return Rig(unknowns.arms, weights, springs)


def check_fact(unknowns, fact):
    return checked_fact(unknowns, 0, fact)


def checked_fact(unknowns, index, fact):
    """The fact as a tuple; its errors have this index."""
    if not _has_form(fact):
        raise BadFact(index, "fact")
    form = fact[0]
    rest = tuple(fact[1:])
    if form in ("rests", "pushes"):
        rest = (_checked_pose(unknowns, index, rest[0]),) + rest[1:]
    if form == "rises":
        rest = (_checked_pose(unknowns, index, rest[0]), _checked_pose(unknowns, index, rest[1]))
    if form == "pushes":
        _check_side(unknowns, index, rest[1], rest[2])
    if form in ("more", "none") and not all([is_whole(number, 0, len(unknowns) - 1) for number in rest]):
        raise BadFact(index, "number")
    return (form,) + rest


def _check_side(unknowns, index, letter, side):
    if not is_whole(letter, 1, unknowns.arms.letters):
        raise BadFact(index, "letter")
    if not is_whole(side) or side not in (1, -1):
        raise BadFact(index, "side")


def _has_form(thing):
    return is_worded(thing) and FORMS.get(thing[0]) == len(thing)


def _checked_pose(unknowns, index, pose):
    try:
        return check_pose(unknowns.arms, pose)
    except BadPose:
        raise BadFact(index, "pose")


def check_facts(unknowns, facts):
    if not is_row(facts, 0, MOST_FACTS):
        raise BadFact(0, "many")
    return tuple([checked_fact(unknowns, index, fact) for index, fact in enumerate(facts)])


def fact_rows(unknowns, fact):
    return rows_by(unknowns, check_fact(unknowns, fact))


def rows_by(unknowns, fact):
    """The rows of a fact that is right."""
    form = fact[0]
    if form == "more":
        return ((take_row(_unit_at(unknowns, fact[1]), _unit_at(unknowns, fact[2])), True),)
    if form == "none":
        return ((_unit_at(unknowns, fact[1]), False),)
    # What each number makes when it is 1 and the others are 0.
    rigs = [rig_with(unknowns, _unit_at(unknowns, number)) for number in range(len(unknowns))]
    if form == "rises":
        return ((tuple([work_rise(rig, fact[1], fact[2]) for rig in rigs]), True),)
    tables = [couplings_of(rig) for rig in rigs]
    if form == "pushes":
        row = _pushes_on(tables, fact[1], fact[2])
        return ((scale_row(row, (fact[3], 1)), True),)
    if form == "rests":
        letters = list(range(1, unknowns.arms.letters + 1))
        return tuple([(_pushes_on(tables, fact[1], letter), False) for letter in letters])
    many = len(tables[0].numbers)
    return tuple([(tuple([table.numbers[pair] for table in tables]), False) for pair in range(many)])


def _unit_at(unknowns, at):
    """The guess that is 1 at this number and 0 elsewhere."""
    return tuple([ONE if number == at else ZERO for number in range(len(unknowns))])


def _pushes_on(tables, pose, letter):
    return tuple([push_by(table, pose, letter) for table in tables])


def holds_fact(unknowns, guess, fact):
    guess = check_guess(unknowns, guess)
    return all([does_hold(row, strict, guess) for row, strict in fact_rows(unknowns, fact)])


def does_hold(row, strict, guess):
    total = product_of(row, guess)
    return total[0] > 0 if strict else total == ZERO
