"""Texts of poses: the half of each letter from 1 on."""
from stillarms.armtext import check_text, ratio_by
from stillarms.directions import DOWN, direction_by, half_of
from stillarms.errors import BadText
from stillarms.ratios import ratio_text


def pose_text(pose):
    return " ".join([_half_text(half_of(direction)) for direction in pose])


def _half_text(half):
    return "down" if half is None else ratio_text(half)


def pose_of(arms, text):
    check_text(text)
    parts = text.split(" ")
    if len(parts) != arms.letters:
        raise BadText(0, "many")
    return tuple([_direction_of(index, part) for index, part in enumerate(parts)])


def _direction_of(index, part):
    if part == "down":
        return DOWN
    half = ratio_by(part)
    if half is None:
        raise BadText(index, "direction")
    return direction_by(half)
