"""A look at a paper: whether it is the near paper of a strip."""

from blotsure.near import near_paper


def near_holds(font, house, strip, paper):
    return paper == near_paper(font, house, strip)
