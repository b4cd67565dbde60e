"""The desk: fonts and houses by names, and rows that are told and answered."""

from blotsure.errors import NoName, NoRow
from blotsure.far import farness, mends
from blotsure.fonts import make_font
from blotsure.houses import takes
from blotsure.makers import book, both, free, padded, sums
from blotsure.near import nearest
from blotsure.notes import read_letter, read_number, read_spot, read_strip, show_strip
from blotsure.setting import set_text
from blotsure.spread import spread
from blotsure.strips import turned

LONGEST_NAME = 8
DONE = "ok"
NOTHING = "none"


def new_name(word):
    if not 1 <= len(word) <= LONGEST_NAME:
        raise NoName("a name has no letters, or too many")
    for sign in word:
        if not "a" <= sign <= "z":
            raise NoName("a name has a sign that is no small letter")
    return word


def kept(things, name):
    if name not in things:
        raise NoName("nothing stands by that name")
    return things[name]


# Each of these is handed the words behind the first one. It reads them from the left, since the first wrong one is
# what is refused, and keeps something only at its end, since what is refused may change nothing.
def font_row(desk, words):
    name = new_name(words[0])
    height = read_number(words[1])
    letters = [read_letter(word) for word in words[2:]]
    desk.fonts[name] = make_font(height, letters)
    return DONE


def free_row(desk, words):
    name = new_name(words[0])
    desk.houses[name] = free(words[1])
    return DONE


def book_row(desk, words):
    name = new_name(words[0])
    desk.houses[name] = book(words[1:])
    return DONE


def sums_row(desk, words):
    name = new_name(words[0])
    many = read_number(words[1])
    desk.houses[name] = sums(words[2], many)
    return DONE


def both_row(desk, words):
    name = new_name(words[0])
    one = kept(desk.houses, words[1])
    other = kept(desk.houses, words[2])
    desk.houses[name] = both(one, other)
    return DONE


def pad_row(desk, words):
    name = new_name(words[0])
    house = kept(desk.houses, words[1])
    desk.houses[name] = padded(house, words[2])
    return DONE


def set_row(desk, words):
    return show_strip(set_text(kept(desk.fonts, words[0]), words[1]))


def turn_row(desk, words):
    height = kept(desk.fonts, words[0])[0]
    strip = read_strip(height, words[1])
    spots = [read_spot(word) for word in words[2:]]
    return show_strip(turned(height, strip, spots))


def takes_row(desk, words):
    return "yes" if takes(kept(desk.houses, words[0]), words[1]) else "no"


def read_row(desk, words):
    font = kept(desk.fonts, words[0])
    house = kept(desk.houses, words[1])
    told = nearest(font, house, read_strip(font[0], words[2]))
    if told is None:
        return NOTHING
    return " ".join([str(told[1]), str(told[2]), told[0]])


def spread_row(desk, words):
    font = kept(desk.fonts, words[0])
    house = kept(desk.houses, words[1])
    # Its numbers are written like those of a strip.
    return show_strip(spread(font, house, read_strip(font[0], words[2])))


def far_row(desk, words):
    font = kept(desk.fonts, words[0])
    told = farness(font, kept(desk.houses, words[1]))
    return NOTHING if told is None else str(told[0])


def mends_row(desk, words):
    font = kept(desk.fonts, words[0])
    told = mends(font, kept(desk.houses, words[1]))
    return "any" if told is None else str(told)


# By the first word: how many words are behind it, whether there may be more of them, and what answers.
ROWS = {
    "font": (3, True, font_row),
    "free": (2, False, free_row),
    "book": (1, True, book_row),
    "sums": (3, False, sums_row),
    "both": (3, False, both_row),
    "pad": (3, False, pad_row),
    "set": (2, False, set_row),
    "turn": (2, True, turn_row),
    "takes": (2, False, takes_row),
    "read": (3, False, read_row),
    "spread": (3, False, spread_row),
    "far": (2, False, far_row),
    "mends": (2, False, mends_row),
}


class Desk:
    def __init__(self):
        self.fonts = {}
        self.houses = {}

    def say(self, row):
        if not isinstance(row, str):
            raise NoRow("a row is a text")
        words = row.split(" ")
        if words[0] not in ROWS:
            raise NoRow("no row begins so")
        known = ROWS[words[0]]
        behind = len(words) - 1
        if behind < known[0] or (behind > known[0] and not known[1]):
            raise NoRow("the row has too many words, or too few")
        answered_by = known[2]
        return answered_by(self, words[1:])
