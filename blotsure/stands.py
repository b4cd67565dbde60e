"""Stands: how far two texts have come that are set side by side, letter by letter."""

from blotsure.strips import gap
from blotsure.ways import ways_of


def begins(font, house):
    return sorted(set([fork[:2] for fork in forks(font, ways_of(font, house))]))


def steps(font, house, stand):
    return steps_by(ways_of(font, house), costs_over(font, stand[2]), stand)


def stands(font, house):
    return sorted(all_steps(font, house))


# A fork is a tuple: the cost and the stand of a begin, the room in which both texts part, and both ways out of it.
def forks(font, ways):
    costs = {}
    for sign, columns in font[1]:
        costs[sign] = costs_over(font, columns)
    found = []
    for room in texts_to_rooms(ways):
        for place, later in enumerate(ways[room]):
            for way in ways[room][:place]:
                # Both letters are like a step: the later one is ahead already, and the first one is given.
                stand = stand_behind(way, later[2], later[1])
                found.append((costs[later[0]][way[0]], stand, room, way, later))
    return found


def texts_to_rooms(ways):
    texts = {0: ""}
    waiting = [0]
    # The room that was come to first is gone on from first, so each text is one of the shortest.
    while len(waiting) > 0:
        here = waiting.pop(0)
        for sign, columns, room in ways[here]:
            if room not in texts:
                texts[room] = texts[here] + sign
                waiting.append(room)
    return texts


def costs_over(font, over):
    costs = {}
    for sign, columns in font[1]:
        wide = min(len(columns), len(over))
        costs[sign] = gap(columns[:wide], over[:wide])
    return costs


def stand_behind(way, ahead, over):
    wide = len(way[1])
    if wide <= len(over):
        return (way[2], ahead, over[wide:])
    return (ahead, way[2], way[1][len(over):])


def steps_by(ways, costs, stand):
    return [(way[0], costs[way[0]], stand_behind(way, stand[1], stand[2])) for way in ways[stand[0]]]


def all_steps(font, house):
    ways = ways_of(font, house)
    # Many stands have the same columns over, so these are held against the letters only once.
    costs = {}
    found = {}
    waiting = [fork[1] for fork in forks(font, ways)]
    while len(waiting) > 0:
        stand = waiting.pop()
        if stand not in found:
            if stand[2] not in costs:
                costs[stand[2]] = costs_over(font, stand[2])
            found[stand] = steps_by(ways, costs[stand[2]], stand)
            waiting.extend([step[2] for step in found[stand]])
    return found
