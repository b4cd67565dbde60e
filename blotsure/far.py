"""How far allowed texts lie apart, and how many turned dots are always mended."""

from blotsure.stands import all_steps, forks, texts_to_rooms
from blotsure.ways import ways_of


def far_paper(font, house):
    onward = all_steps(font, house)
    found = rests(onward, house[1])
    return [row_of(stand, found) for stand in sorted(onward)]


def row_of(stand, found):
    rest = found.get(stand, (None, None))
    return (stand, rest[0], rest[1])


# A rest is a tuple: the least cost from a stand to an even one, and the least number of steps with that cost.
def rests(onward, ends):
    backward = steps_back(onward)
    found = {}
    waiting = {(0, 0): [stand for stand in onward if is_even(stand, ends)]}
    # Each step makes a rest greater, if only by its letter: so the least one that waits is never made less.
    while len(waiting) > 0:
        rest = min(waiting)
        reached = waiting.pop(rest)
        for stand in reached:
            if stand not in found:
                found[stand] = rest
                let_wait(waiting, rest, backward[stand])
    return found


def let_wait(waiting, rest, backs):
    for cost, earlier in backs:
        waiting.setdefault((rest[0] + cost, rest[1] + 1), []).append(earlier)


def steps_back(onward):
    backward = {}
    for stand in onward:
        backward[stand] = []
    for stand, steps in onward.items():
        for sign, cost, later in steps:
            backward[later].append((cost, stand))
    return backward


def is_even(stand, ends):
    return len(stand[2]) == 0 and stand[0] in ends and stand[1] in ends


def farness(font, house):
    ways = ways_of(font, house)
    onward = all_steps(font, house)
    found = rests(onward, house[1])
    pairs = [(fork[0] + found[fork[1]][0], fork) for fork in forks(font, ways) if fork[1] in found]
    if len(pairs) == 0:
        return None
    least = min(pairs)
    texts = led_on(font, onward, found, least[1][1], texts_of_fork(ways, least[1]))
    return (least[0], min(texts), max(texts))


# Two texts side by side are a tuple: the one that is behind, and the one that is ahead.
def texts_of_fork(ways, fork):
    text = texts_to_rooms(ways)[fork[2]]
    way = fork[3]
    later = fork[4]
    return grown((text, text + later[0]), way[0], len(way[1]) > len(later[1]))


def grown(texts, sign, passes):
    longer = texts[0] + sign
    return (texts[1], longer) if passes else (longer, texts[1])


def led_on(font, onward, found, stand, texts):
    letters = dict(font[1])
    while found[stand] != (0, 0):
        step = step_on(onward[stand], found, found[stand])
        texts = grown(texts, step[0], len(letters[step[0]]) > len(stand[2]))
        stand = step[2]
    return texts


def step_on(steps, found, rest):
    for step in steps:
        if found.get(step[2]) == (rest[0] - step[1], rest[1] - 1):
            return step
    return None


def mends(font, house):
    told = farness(font, house)
    if told is None:
        return None
    return (told[0] - 1) // 2
