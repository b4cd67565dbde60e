"""Pages: texts broken into rows, rows filled up to one width, and pages read back."""

from blotsure.errors import NoFiller, NoHouse, NoSign, NotTaken, NoWords, TooWide
from blotsure.far import mends
from blotsure.fonts import columns_of
from blotsure.houses import takes
from blotsure.makers import padded
from blotsure.near import nearest
from blotsure.setting import breadth, set_text


def broken(font, text, wide):
    words = words_of(font, text)
    for word in words:
        if breadth(font, word) > wide:
            raise TooWide("a word is wider than a row")
    rows = []
    for word in words:
        if len(rows) > 0 and breadth(font, rows[-1] + " " + word) <= wide:
            rows[-1] = rows[-1] + " " + word
        else:
            rows.append(word)
    return rows


def words_of(font, text):
    # Asked for its refusal alone: a sign that the font lacks goes ahead of all else.
    breadth(font, text)
    if text == "":
        return []
    words = text.split(" ")
    if "" in words:
        raise NoWords("a blank does not part two words")
    return words


def page(font, house, filler, rows, wide):
    padded_by(font, house, filler)
    return [filled(font, house, filler, row, wide) for row in rows]


def padded_by(font, house, filler):
    if len(filler_columns(font, filler)) != 1:
        raise NoFiller("the filler has more than one column")
    try:
        return padded(house, filler)
    except NoHouse:
        raise NoFiller("the house can't be padded with the filler") from None


def filler_columns(font, filler):
    try:
        return columns_of(font, filler)
    except NoSign:
        raise NoFiller("the filler is no sign of the font") from None


def filled(font, house, filler, row, wide):
    picture = set_text(font, row)
    if not takes(house, row):
        raise NotTaken("the house does not take a row")
    if len(picture) > wide:
        raise TooWide("a row is wider than the page")
    return picture + columns_of(font, filler) * (wide - len(picture))


def read_page(font, house, filler, strips):
    house_of_rows = padded_by(font, house, filler)
    return [read_row(font, house_of_rows, filler, strip) for strip in strips]


def read_row(font, house, filler, strip):
    told = nearest(font, house, strip)
    if told is None:
        return None
    # No row has a filler of its own: it is the sign of none of its house's doors.
    return (told[0].rstrip(filler), told[1], told[2])


def page_mends(font, house, filler):
    return mends(font, padded_by(font, house, filler))
