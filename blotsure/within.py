"""All readings: the allowed texts that lie within a gap of a strip."""

from blotsure.near import gaps_at, near_paper, thing_through
from blotsure.ways import ways_of


def within(font, house, strip, far, most):
    paper = near_paper(font, house, strip)
    ways = ways_of(font, house)
    gaps = [gaps_at(font, strip, x) for x in range(len(strip))]
    found = []
    # The beginning that comes first in the order of texts waits last. Each one that waits still leads to a text
    # within the gap, so none is gone on with for nothing, however many texts there are.
    waiting = [("", 0, 0, far)] if reaches(paper[0][0], far) else []
    while len(waiting) > 0 and len(found) < most:
        begun = waiting.pop()
        if begun[1] == len(strip):
            found.append(begun[0])
        else:
            waiting.extend(longer_ones(begun, ways[begun[2]], gaps[begun[1]], paper))
    return found


def reaches(thing, far):
    return thing is not None and thing[0] <= far


# A beginning is a tuple: its text, its width, the room to which it leads, and how much of the gap is left.
def longer_ones(begun, leads, gaps, paper):
    found = []
    for way in reversed(leads):
        if reaches(thing_through(way, gaps, paper, begun[1]), begun[3]):
            found.append((begun[0] + way[0], begun[1] + len(way[1]), way[2], begun[3] - gaps[way[0]]))
    return found
