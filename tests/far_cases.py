"""Fonts and houses for the tests of stands and far papers, and what is told of them by going all ways there are."""

from blotsure.fonts import make_font
from blotsure.houses import make_house
from blotsure.makers import book, both, free, padded, sums
from near_cases import FONT, HOUSES, NARROW, ODD, ONE_WIDE, dots_apart, leads_to_end, texts_as_wide

# Letters of one to three columns; x and y have the same columns, and z is both of them side by side.
MIXED = make_font(2, [("x", [1]), ("y", [1]), ("z", [1, 1]), ("u", [3, 0]), ("v", [0, 2, 3]), ("w", [2])])
EVEN = make_font(3, [("a", [7, 0]), ("b", [0, 7]), ("c", [7, 7]), ("d", [0, 0])])
TALL = make_font(60, [("a", [2 ** 60 - 1, 0]), ("b", [0, 2 ** 59]), ("c", [5])])

# From rooms 1 and 2 blank letters lead round and round; the way out of the ring costs dots.
RING = make_house([[("x", 1), ("y", 2)], [("x", 2), ("y", 1), ("w", 3)], [("x", 1), ("y", 2), ("u", 3)], []], [3])

FEW = (
    (MIXED, free("x")), (MIXED, free("xy")), (MIXED, free("xz")), (MIXED, free("uvw")), (MIXED, free("")),
    (MIXED, free("qx")), (MIXED, free("qxy")), (MIXED, book(["x", "y"])), (MIXED, book(["xx", "z", "v", "yw"])),
    (MIXED, book(["u", "v", "w"])), (MIXED, book(["uq", "vq", "wq", "x"])), (MIXED, sums("xz", 2)),
    (MIXED, sums("uw", 3)), (MIXED, sums("xyzuvw", 2)), (MIXED, RING), (MIXED, padded(book(["u", "wx"]), "y")),
    (MIXED, make_house([[("x", 1), ("y", 2)], [("u", 1)], [("w", 2)]], [1, 2])),
    (MIXED, make_house([[("x", 1), ("y", 2)], [("u", 1)], [("w", 2)]], [1])),
    (MIXED, make_house([[("x", 0), ("y", 0), ("z", 0)]], [])),
    (EVEN, free("abcd")), (EVEN, sums("abcd", 2)), (EVEN, sums("abc", 3)), (EVEN, sums("ab", 2, (1, 0))),
    (EVEN, book(["ab", "ba", "cc", "dd", "a"])), (EVEN, both(sums("abcd", 2), sums("dcba", 3))),
    (TALL, free("abc")), (TALL, sums("ab", 3)), (NARROW, sums("abc", 3)), (NARROW, sums("aBcb", 2)),
    (NARROW, free("ac")), (ONE_WIDE, free("w")), (NARROW, ODD), (FONT, book(["ab", "ba", "cab", "dAb", "", "q"])),
)
MANY = FEW + tuple((FONT, house) for house in HOUSES) + ((FONT, ODD),)


def rooms_led_to(font, house):
    """All rooms to which a text of the font's signs leads: texts with fewer signs than rooms lead to each of them."""
    signs = {sign for sign, _ in font[1]}
    rooms = {0}
    for _ in house[0]:
        rooms |= {room for here in rooms for sign, room in house[0][here] if sign in signs}
    return rooms


def begins_by_pairs(font, house):
    letters = dict(font[1])
    found = set()
    for here in rooms_led_to(font, house):
        for x, x_room in house[0][here]:
            for y, y_room in house[0][here]:
                if x < y and x in letters and y in letters:
                    one, other = letters[x], letters[y]
                    cost = dots_apart(one, other)
                    if len(one) < len(other):
                        stand = (x_room, y_room, tuple(other[len(one):]))
                    elif len(one) == len(other):
                        stand = (x_room, y_room, ())
                    else:
                        stand = (y_room, x_room, tuple(one[len(other):]))
                    found.add((cost, stand))
    return sorted(found)


def steps_by_hand(font, house, stand):
    letters = dict(font[1])
    behind, ahead, over = stand
    found = []
    for sign in sorted(sign for sign, _ in house[0][behind] if sign in letters):
        room = dict(house[0][behind])[sign]
        columns = letters[sign]
        cost = dots_apart(columns, over)
        if len(columns) < len(over):
            new = (room, ahead, tuple(over[len(columns):]))
        elif len(columns) == len(over):
            new = (room, ahead, ())
        else:
            new = (ahead, room, tuple(columns[len(over):]))
        found.append((sign, cost, new))
    return found


def stands_by_steps(font, house):
    found = {stand for _, stand in begins_by_pairs(font, house)}
    fresh = set(found)
    while fresh:
        fresh = {step[2] for stand in fresh for step in steps_by_hand(font, house, stand)} - found
        found |= fresh
    return sorted(found)


def rows_of_steps(font, house, stand, gone):
    """The sums and numbers of steps of all rows of steps to an even stand that come to no stand twice."""
    if stand[2] == () and stand[0] in house[1] and stand[1] in house[1]:
        yield 0, 0
    for _, cost, later in steps_by_hand(font, house, stand):
        if later not in gone:
            for rest, letters in rows_of_steps(font, house, later, gone | {later}):
                yield cost + rest, letters + 1


def paper_by_rounds(font, house):
    """The far paper, made better round by round: in round k, by rows of at most k steps."""
    steps = {stand: steps_by_hand(font, house, stand) for stand in stands_by_steps(font, house)}
    best = {}
    for stand in steps:
        if stand[2] == () and stand[0] in house[1] and stand[1] in house[1]:
            best[stand] = (0, 0)
    while True:
        better = dict(best)
        for stand in steps:
            for _, cost, later in steps[stand]:
                if later in best:
                    new = (best[later][0] + cost, best[later][1] + 1)
                    better[stand] = min(better.get(stand, new), new)
        if better == best:
            return [(stand,) + best.get(stand, (None, None)) for stand in sorted(steps)]
        best = better


def allowed_by_width(font, house, widest):
    """For each width, all allowed texts of it with their pictures."""
    found = []
    for wide in range(widest + 1):
        found.append([(text, picture) for text, picture in texts_as_wide(font, wide) if leads_to_end(house, 0, text)])
    return found


def least_gap(pictures):
    """The least gap of two of these pictures that are as wide; None where no two are."""
    gaps = []
    for place, picture in enumerate(pictures):
        gaps.extend(dots_apart(picture, other) for other in pictures[:place] if len(other) == len(picture))
    return min(gaps, default=None)


def farness_by_pairs(font, house, widest):
    """The least gap of two different allowed texts of one width, no wider than told; None where there are none."""
    gaps = [least_gap([picture for _, picture in texts]) for texts in allowed_by_width(font, house, widest)]
    return min((far for far in gaps if far is not None), default=None)
