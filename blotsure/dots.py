"""Whole numbers, heights, signs, and columns of dots."""

GREATEST_HEIGHT = 60

# The one sign that is left out, by its number: it may not stand in a text of this program.
LEFT_OUT = 37


def is_whole(thing):
    # For Python, True and False are ints too.
    return isinstance(thing, int) and not isinstance(thing, bool)


def is_height(thing):
    return is_whole(thing) and 1 <= thing <= GREATEST_HEIGHT


def is_sign(thing):
    if not isinstance(thing, str) or len(thing) != 1:
        return False
    return " " <= thing <= "~" and ord(thing) != LEFT_OUT


def is_column(height, thing):
    # A number below 0 has bits as well, so it is refused ahead of counting them.
    return is_whole(thing) and thing >= 0 and thing.bit_length() <= height


def inked(column):
    dots = 0
    while column > 0:
        # This takes away the lowest dot alone, so the loop runs once a dot and not once a line.
        column = column & (column - 1)
        dots += 1
    return dots


def lines_of(column):
    return [line for line in range(column.bit_length()) if (column >> line) & 1]


def column_of(lines):
    column = 0
    for line in lines:
        # Not added: a line that is told twice has one dot.
        column = column | (1 << line)
    return column


def apart(one, other):
    return inked(one ^ other)
