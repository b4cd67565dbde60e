"""A look at a paper: whether it is the far paper."""

from blotsure.far import far_paper


def far_holds(font, house, paper):
    return paper == far_paper(font, house)
