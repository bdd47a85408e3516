"""Texts of places and arms."""
from stillarms.arms import MAST, MOST_BARS, MOST_LETTERS, Arms
from stillarms.errors import BadArms, BadRatio, BadText
from stillarms.ratios import ratio_of, ratio_text


def bar_word(bar):
    return "mast" if bar == MAST else str(bar)


def bar_by(word, many):
    """The bar below `many`, or the mast, whose word this is, or None."""
    for bar in range(MAST, many):
        if bar_word(bar) == word:
            return bar
    return None


def ratio_by(word):
    """The ratio whose text this is, or None."""
    try:
        return ratio_of(word)
    except BadRatio:
        return None


def place_by(arms, word):
    """The place whose text this is, or None."""
    name, _, rest = word.partition(":")
    bar = bar_by(name, len(arms.bars))
    mark = ratio_by(rest)
    if bar is None or mark is None:
        return None
    return (bar, mark)


def check_text(text):
    """Raises BadText unless this is a text."""
    if not isinstance(text, str):
        raise BadText(0, "text")


def place_text(place):
    bar, mark = place
    return bar_word(bar) + ":" + ratio_text(mark)


def place_of(arms, text):
    check_text(text)
    place = place_by(arms, text)
    if place is None:
        raise BadText(0, "place")
    return place


def arm_text(arms):
    return "\n".join([f"{bar_word(host)} {ratio_text(mark)} {letter}" for host, mark, letter in arms.bars])


def arms_of(text):
    check_text(text)
    bars = []
    for number, row in enumerate(text.split("\n")):
        bars.append(_bar_of(number, row))
    try:
        return Arms(bars)
    except BadArms:
        # Each row is right by now, so only the letters together can be wrong.
        raise BadText(0, "gap") from None


def _bar_of(number, row):
    if number == MOST_BARS:
        raise BadText(number, "many")
    parts = row.split(" ")
    if len(parts) != 3:
        raise BadText(number, "parts")
    host = bar_by(parts[0], number)
    if host is None:
        raise BadText(number, "host")
    mark = ratio_by(parts[1])
    if mark is None:
        raise BadText(number, "mark")
    words = [str(letter) for letter in range(MOST_LETTERS + 1)]
    if parts[2] not in words:
        raise BadText(number, "letter")
    return (host, mark, words.index(parts[2]))
