"""Fonts: a height, and for each sign the columns of its letter."""

from blotsure.dots import is_column, is_height, is_sign
from blotsure.errors import NoFont, NoSign

MOST_LETTERS = 40
MOST_COLUMNS = 8


def make_font(height, letters):
    # First, since what a column is can only be asked of a height.
    if not is_height(height):
        raise NoFont("that is no height")
    if not 1 <= len(letters) <= MOST_LETTERS:
        raise NoFont("there are no letters, or there are too many")
    made = {}
    for sign, columns in letters:
        # First, since what is no sign may not be fit to be looked up.
        if not is_sign(sign):
            raise NoFont("a letter's sign is none")
        if sign in made:
            raise NoFont("a sign comes twice")
        made[sign] = made_letter(height, columns)
    return (height, tuple(sorted(made.items())))


def made_letter(height, columns):
    if not 1 <= len(columns) <= MOST_COLUMNS:
        raise NoFont("a letter has no columns, or too many")
    for column in columns:
        if not is_column(height, column):
            raise NoFont("a letter has a column that the height does not have")
    return tuple(columns)


def signs_of(font):
    return "".join([sign for sign, columns in font[1]])


def columns_of(font, sign):
    # Asked first: something that is no sign might call itself like one.
    if is_sign(sign):
        for letter, columns in font[1]:
            if letter == sign:
                return list(columns)
    raise NoSign("the font does not have that sign")
