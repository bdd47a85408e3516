"""Pins, which hold letters fast at directions, and what the other letters can do then."""
from math import isqrt

from stillarms.brakes import Slips, check_brakes, fault_keeping, first_slip
from stillarms.couplings import couplings_of
from stillarms.directions import LEFT, UP, cross_of, direction_by, dot_of, is_direction, root_of
from stillarms.errors import BadPins, NoLetter
from stillarms.ratios import (ZERO, compare, is_whole, lowest_terms, minus, negative, over, plus, size_of, sum_of,
                              times)
from stillarms.rows import is_row
from stillarms.stillness import push_by


def check_pins(arms, pins):
    if not is_row(pins):
        raise BadPins(0)
    last = 0
    for index, pin in enumerate(pins):
        if not _is_pin(arms, pin, last):
            raise BadPins(index)
        last = pin[0]
    return tuple([(letter, tuple(direction)) for letter, direction in pins])


def _is_pin(arms, thing, last):
    return is_row(thing, 2, 2) and is_whole(thing[0], last + 1, arms.letters) and is_direction(thing[1])


def _free_letters(couplings, pins):
    pinned = [letter for letter, _ in pins]
    return [letter for letter in range(1, couplings.letters + 1) if letter not in pinned]


def _pull_on(couplings, pins, letter):
    """The sum, over letter 0 and the pinned letters, of the coupling with this letter times their direction.

    Its cross product with the letter's direction is their push on the letter.
    """
    fast = [(other, direction) for other, direction in ((0, UP),) + pins if other != letter]
    across = [times(couplings.coupling(other, letter), direction[0]) for other, direction in fast]
    upward = [times(couplings.coupling(other, letter), direction[1]) for other, direction in fast]
    return (sum_of(across), sum_of(upward))


def _reach_of(couplings, pins, letter):
    """The greatest push on a letter by all other free letters."""
    others = [other for other in _free_letters(couplings, pins) if other != letter]
    return sum_of([size_of(couplings.coupling(other, letter)) for other in others])


def pinned_bounds(rig, pins):
    pins = check_pins(rig.arms, pins)
    couplings = couplings_of(rig)
    bounds = []
    for letter in _free_letters(couplings, pins):
        pull = _pull_on(couplings, pins, letter)
        bounds.append((letter, _reach_of(couplings, pins, letter), dot_of(pull, pull)))
    return tuple(bounds)


def is_held_pinned(rig, brakes, pins):
    return pinned_slip(rig, brakes, pins) is None


def pinned_slip(rig, brakes, pins):
    brakes = check_brakes(rig.arms, brakes)
    return slip_keeping(couplings_of(rig), brakes, check_pins(rig.arms, pins))


def slip_keeping(couplings, brakes, pins):
    """The first slip in poses that keep the pins, or None; brakes and pins are right."""
    if pins == ():
        return first_slip(couplings, brakes)
    for letter in _free_letters(couplings, pins):
        pull = _pull_on(couplings, pins, letter)
        room = minus(brakes[letter - 1], _reach_of(couplings, pins, letter))
        if room[0] < 0 or compare(dot_of(pull, pull), times(room, room)) > 0:
            pose = _pose_against(couplings, pins, letter, _direction_beyond(pull, room))
            return Slips(letter, pose, push_by(couplings, pose, letter))
    return None


def _direction_beyond(pull, room):
    """A direction in which the push by a pull is above the room, which is less than the pull's length."""
    best = (negative(pull[1]), pull[0])
    square = dot_of(best, best)
    if square == ZERO:
        return LEFT
    root = root_of(square)
    if root is not None:
        return (over(best[0], root), over(best[1], root))
    bits = 4
    direction = _direction_along(best, _root_above(square, bits))
    # The best direction itself has no ratios here, but ratios come as near to it as is needed.
    while compare(cross_of(pull, direction), room) <= 0:
        bits = 2 * bits
        direction = _direction_along(best, _root_above(square, bits))
    return direction


def _root_above(ratio, bits):
    """A ratio above the root of a ratio, the nearer the more bits there are."""
    top, bottom = ratio
    return lowest_terms(isqrt((top * bottom) << (2 * bits)) + 1, bottom << bits)


def _direction_along(spot, length):
    """The direction of a spot whose distance is taken for this length, which is above it."""
    return direction_by(over(negative(spot[0]), plus(length, spot[1])))


def _pose_against(couplings, pins, letter, direction):
    """The pose that keeps the pins, has the letter at this direction, and is of greatest push on it then."""
    ways = {pinned: way for pinned, way in pins}
    ways[letter] = direction
    x, y = direction
    for other in _free_letters(couplings, pins):
        if other != letter:
            ways[other] = (y, negative(x)) if couplings.coupling(other, letter)[0] >= 0 else (negative(y), x)
    return tuple([ways[other] for other in range(1, couplings.letters + 1)])


def pinned_fault(rig, brakes, pins, slip):
    brakes = check_brakes(rig.arms, brakes)
    return fault_keeping(rig, brakes, check_pins(rig.arms, pins), slip)


def pinned_stretches(rig, pins):
    pins = check_pins(rig.arms, pins)
    couplings = couplings_of(rig)
    stretches = []
    for letter, direction in pins:
        push = cross_of(_pull_on(couplings, pins, letter), direction)
        reach = _reach_of(couplings, pins, letter)
        stretches.append((letter, minus(push, reach), plus(push, reach)))
    return tuple(stretches)


def pinned_pose(rig, pins, letter):
    pins = check_pins(rig.arms, pins)
    if not is_whole(letter):
        raise NoLetter(letter)
    for pinned, direction in pins:
        if pinned == letter:
            return _pose_against(couplings_of(rig), pins, letter, direction)
    raise NoLetter(letter)
