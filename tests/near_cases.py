"""Fonts, houses and strips for the tests of near papers, and the papers by writing all texts down."""

from blotsure.fonts import make_font
from blotsure.houses import make_house
from blotsure.makers import book, both, free, padded, sums
from helpers import Draw

# Letters of one to eight columns; a and A have the same columns, and so have c and d.
FONT = make_font(3, [
    ("a", [1]), ("A", [1]), ("b", [6]), ("c", [5, 2]), ("d", [5, 2]), ("e", [0, 7, 0]), ("f", [1, 2, 3, 4]),
    ("g", [7, 0, 0, 0, 7]), ("h", [0] * 6), ("i", [1, 3, 7, 7, 7, 3, 1]), ("j", [7, 6, 5, 4, 3, 2, 1, 0]),
])
NARROW = make_font(2, [("a", [0]), ("b", [1]), ("c", [3]), ("B", [1])])
ONE_WIDE = make_font(4, [("w", [1, 2, 3, 4, 5, 6, 7, 8])])
FONTS = (FONT, NARROW, ONE_WIDE)

# Rooms 3 and 4 are a ring without an end, room 5 has no doors, nothing leads to room 6, an end.
ODD = make_house(
    [[("a", 1), ("b", 2), ("c", 3), ("q", 2)], [("a", 0), ("d", 2), ("f", 5)], [("b", 2), ("e", 0), ("w", 1)],
     [("a", 4)], [("b", 3), ("c", 4)], [], [("a", 6), ("j", 2), ("q", 6)]],
    [2, 6],
)
HOUSES = (
    free("abcdefghijA"), free("ab"), free("wq"), free(""), book([]), book([""]),
    book(["ab", "ba", "cab", "dAb", "", "q", "aqb"]), sums("abc", 3), sums("Aabcdefghij", 4, (1, 0, 3)),
    padded(book(["ab", "c"]), "B"), both(sums("abcB", 2), sums("aBcb", 3)), make_house([[("a", 0)]], []), ODD,
)


def dots_apart(one, other):
    return sum(bin(left ^ right).count("1") for left, right in zip(one, other))


def texts_as_wide(font, wide):
    """All texts of the font's signs with that width, each with its picture."""
    if wide == 0:
        return [("", [])]
    found = []
    for sign, columns in font[1]:
        if len(columns) <= wide:
            for text, picture in texts_as_wide(font, wide - len(columns)):
                found.append((sign + text, list(columns) + picture))
    return found


def leads_to_end(house, room, text):
    for sign in text:
        room = dict(house[0][room]).get(sign)
        if room is None:
            return False
    return room in house[1]


def gaps_by_writing(font, house, room, columns):
    """All pairs (gap, text) of the texts that lead from that room to an end and are as wide as the columns."""
    texts = texts_as_wide(font, len(columns))
    return [(dots_apart(picture, columns), text) for text, picture in texts if leads_to_end(house, room, text)]


def paper_by_writing(font, house, strip):
    paper = []
    for x in range(len(strip) + 1):
        row = []
        for room in range(len(house[0])):
            gaps = [far for far, _ in gaps_by_writing(font, house, room, strip[x:])]
            row.append((min(gaps), gaps.count(min(gaps))) if gaps else None)
        paper.append(row)
    return paper


def nearest_by_writing(font, house, strip):
    found = sorted(gaps_by_writing(font, house, 0, strip))
    if not found:
        return None
    far = found[0][0]
    return (min(text for other, text in found if other == far), far, [other for other, _ in found].count(far))


def drawn_strip(draw, font, wide):
    return [draw.below(2 ** font[0]) for _ in range(wide)]


def cases():
    """Each font with each house, with strips of few columns."""
    draw = Draw(17)
    for font in FONTS:
        for house in HOUSES:
            for wide in (0, 1, 2, 3, 4, 5):
                yield font, house, drawn_strip(draw, font, wide)
            yield font, house, [0] * 4
    for house in (ODD, HOUSES[1], HOUSES[6]):
        yield FONT, house, drawn_strip(draw, FONT, 7)
    for wide in (8, 9, 16):
        yield ONE_WIDE, free("w"), drawn_strip(draw, ONE_WIDE, wide)


def fewer_doors(font, house):
    """The house without the doors whose signs the font lacks."""
    signs = {sign for sign, _ in font[1]}
    doors = [[(sign, room) for sign, room in pairs if sign in signs] for pairs in house[0]]
    return make_house(doors, list(house[1]))
