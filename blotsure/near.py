"""The nearest text: of the allowed texts as wide as a strip, the one with the least gap from it."""

from blotsure.strips import gap
from blotsure.ways import ways_of


def near_paper(font, house, strip):
    ways = ways_of(font, house)
    # Row x rests on the rows behind it alone, so they are filled from the last one on.
    paper = [[] for x in range(len(strip) + 1)]
    paper[len(strip)] = [(0, 1) if room in house[1] else None for room in range(len(ways))]
    for x in range(len(strip) - 1, -1, -1):
        gaps = gaps_at(font, strip, x)
        paper[x] = [thing_at(leads, gaps, paper, x) for leads in ways]
    return paper


def gaps_at(font, strip, x):
    gaps = {}
    for sign, columns in font[1]:
        beneath = strip[x:x + len(columns)]
        # At the strip's end a letter may be too wide for what is left.
        if len(beneath) == len(columns):
            gaps[sign] = gap(columns, beneath)
    return gaps


def thing_at(leads, gaps, paper, x):
    thing = None
    for way in leads:
        thing = merged(thing, thing_through(way, gaps, paper, x))
    return thing


def thing_through(way, gaps, paper, x):
    sign = way[0]
    if sign not in gaps:
        return None
    behind = paper[x + len(way[1])][way[2]]
    if behind is None:
        return None
    return (gaps[sign] + behind[0], behind[1])


def merged(one, other):
    if one is None:
        return other
    if other is None:
        return one
    if one[0] == other[0]:
        return (one[0], one[1] + other[1])
    return one if one[0] < other[0] else other


def nearest(font, house, strip):
    paper = near_paper(font, house, strip)
    thing = paper[0][0]
    if thing is None:
        return None
    return (first_text(font, house, strip, paper), thing[0], thing[1])


def first_text(font, house, strip, paper):
    ways = ways_of(font, house)
    signs = []
    room = 0
    x = 0
    # None of the nearest texts is the beginning of another one, as all are as wide: so sign by sign the first
    # one that still leads to the least gap.
    while x < len(strip):
        way = first_way(ways[room], gaps_at(font, strip, x), paper, x, paper[x][room][0])
        signs.append(way[0])
        x += len(way[1])
        room = way[2]
    return "".join(signs)


def first_way(leads, gaps, paper, x, far):
    for way in leads:
        thing = thing_through(way, gaps, paper, x)
        if thing is not None and thing[0] == far:
            return way
    return None
