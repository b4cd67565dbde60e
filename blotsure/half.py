"""Halfway: a picture that lies no nearer to one text than to another."""

from blotsure.setting import set_text
from blotsure.strips import spots_apart, turned


def halfway(font, one, other):
    picture = set_text(font, one)
    spots = spots_apart(picture, set_text(font, other))
    return turned(font[0], picture, spots[:(len(spots) + 1) // 2])
