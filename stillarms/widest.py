"""The widest load of one weight: all its amounts at which a rig can be settled."""
from stillarms.adjusters import check_some_brakes, no_settings
from stillarms.ratios import ONE, ZERO, negative
from stillarms.rigs import check_number
from stillarms.settling import settle_columns, settle_target, start_at
from stillarms.slides import check_slides, straight_parts
from stillarms.tasks import Against, Endless, least_cost


def widest_load(rig, weight, slides, *, brakes=None):
    check_number(weight, rig.weights)
    loads = ((weight, ZERO, ZERO),)
    slides = check_slides(rig, loads, slides)
    brakes = check_some_brakes(rig.arms, brakes)
    parts = straight_parts(rig, loads, slides)
    columns = _columns_with_load(parts, brakes is not None)
    target = settle_target([start_at(parts, slides, (ZERO,))], slides, brakes)
    least = least_cost(columns, target, _load_costs(columns, ONE))
    if isinstance(least, Against):
        return no_settings(parts, least.numbers, 1, brakes is not None)[0]
    below = None if least.value == ZERO else _shown(parts, least.numbers, brakes)
    # The greatest amount is the least cost, with its sign changed, of the opposite costs.
    greatest = least_cost(columns, target, _load_costs(columns, negative(ONE)))
    if isinstance(greatest, Endless):
        return Widest(least.value, None, below, None)
    return Widest(least.value, negative(greatest.value), below, _shown(parts, greatest.numbers, brakes))


def _columns_with_load(parts, braked):
    """The columns that settle the rig, and last one for the amount of the load."""
    columns = settle_columns(parts, 1, braked)
    load = parts.by_loads[0]
    letters = load.letters if braked else 0
    return columns + [load.numbers + (ZERO,) * (len(parts.by_slides) + letters)]


def _load_costs(columns, cost):
    return [ZERO] * (len(columns) - 1) + [cost]


def _shown(parts, numbers, brakes):
    """What shows the end that a least cost has: its numbers with their signs changed are against all that is beyond."""
    return no_settings(parts, [negative(number) for number in numbers], 1, brakes is not None)[0]


class Widest:
    """The least and the greatest amount at which a rig can be settled, None if it has no end, and what shows them."""

    def __init__(self, low, high, below, beyond):
        self.low = low
        self.high = high
        self.below = below
        self.beyond = beyond

    def __eq__(self, other):
        return (isinstance(other, Widest) and self.low == other.low and self.high == other.high
                and self.below == other.below and self.beyond == other.beyond)
