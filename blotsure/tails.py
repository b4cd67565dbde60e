"""Tails: how many signs a room is away from an end, and what a text lacks to be taken."""

from blotsure.houses import goes


def depths(house):
    answer = [0 if room in house[1] else None for room in range(len(house[0]))]
    # No depth is greater: a shortest text to an end goes through no room twice.
    for depth in range(1, len(house[0])):
        for room, doors in enumerate(house[0]):
            if answer[room] is None and door_to_depth(doors, answer, depth - 1) is not None:
                answer[room] = depth
    return answer


def door_to_depth(doors, found, depth):
    for door in doors:
        if found[door[1]] == depth:
            return door
    return None


def tail(house, text):
    room = goes(house, text)
    found = depths(house)
    if room is None or found[room] is None:
        return None
    signs = []
    # None of the shortest tails is the beginning of another one: so sign by sign the first one that leads nearer.
    while found[room] > 0:
        door = door_to_depth(house[0][room], found, found[room] - 1)
        signs.append(door[0])
        room = door[1]
    return "".join(signs)
