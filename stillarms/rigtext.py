"""Texts of the weights and springs of rigs."""
from stillarms.armtext import check_text, place_by, place_text, ratio_by
from stillarms.errors import BadText
from stillarms.ratios import is_positive, ratio_text
from stillarms.rigs import MOST_SPRINGS, MOST_WEIGHTS, Rig


def rig_text(rig):
    rows = [f"weight {ratio_text(amount)} at {place_text(place)}" for place, amount in rig.weights]
    for one, other, strength in rig.springs:
        rows.append(f"spring {ratio_text(strength)} from {place_text(one)} to {place_text(other)}")
    return "\n".join(rows)


def rig_of(arms, text):
    check_text(text)
    if text == "":
        return Rig(arms)
    weights = []
    springs = []
    for number, row in enumerate(text.split("\n")):
        parts = row.split(" ")
        if parts[0] not in ("weight", "spring"):
            raise BadText(number, "word")
        if parts[0] == "spring":
            springs.append(_spring_of(arms, number, parts, len(springs)))
        elif springs:
            raise BadText(number, "order")
        else:
            weights.append(_weight_of(arms, number, parts, len(weights)))
    return Rig(arms, weights, springs)


def _weight_of(arms, number, parts, before):
    """The weight of a row, behind so many before it."""
    if len(parts) != 4 or parts[2] != "at":
        raise BadText(number, "parts")
    amount = ratio_by(parts[1])
    if not is_positive(amount):
        raise BadText(number, "amount")
    place = place_by(arms, parts[3])
    if place is None:
        raise BadText(number, "place")
    if before == MOST_WEIGHTS:
        raise BadText(number, "many")
    return (place, amount)


def _spring_of(arms, number, parts, before):
    """The spring of a row, behind so many before it."""
    if len(parts) != 6 or parts[2] != "from" or parts[4] != "to":
        raise BadText(number, "parts")
    strength = ratio_by(parts[1])
    if not is_positive(strength):
        raise BadText(number, "strength")
    one = place_by(arms, parts[3])
    other = place_by(arms, parts[5])
    if one is None or other is None:
        raise BadText(number, "place")
    if before == MOST_SPRINGS:
        raise BadText(number, "many")
    return (one, other, strength)
