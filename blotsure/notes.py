"""Notes: numbers, strips, spots and letters as they are written."""

from blotsure.dots import GREATEST_HEIGHT, is_column, is_sign
from blotsure.errors import NoNote

FIGURES = "0123456789"
MOST_FIGURES = 20
NO_COLUMNS = "-"


def read_number(text):
    if not 1 <= len(text) <= MOST_FIGURES:
        raise NoNote("a number has no figures, or too many")
    for sign in text:
        # Not asked of Python, which knows figures of many scripts.
        if sign not in FIGURES:
            raise NoNote("a number has a sign that is no figure")
    if text[0] == "0" and text != "0":
        raise NoNote("a number has a 0 ahead")
    return int(text)


def show_strip(strip):
    if len(strip) == 0:
        return NO_COLUMNS
    return ",".join([str(column) for column in strip])


def read_strip(height, text):
    if text == NO_COLUMNS:
        return []
    return [read_column(height, part) for part in text.split(",")]


def read_column(height, text):
    column = read_number(text)
    if not is_column(height, column):
        raise NoNote("the height does not have that column")
    return column


def read_spot(text):
    parts = text.split(",")
    if len(parts) != 2:
        raise NoNote("a spot is not two numbers")
    return (read_number(parts[0]), read_number(parts[1]))


def read_letter(text):
    # By its place and not by splitting, since the sign may be a colon itself.
    if not is_sign(text[:1]) or text[1:2] != ":":
        raise NoNote("a letter does not begin with a sign and a colon")
    return (text[0], read_strip(GREATEST_HEIGHT, text[2:]))
