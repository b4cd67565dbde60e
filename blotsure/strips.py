"""Strips of columns: how far they lie apart, turning dots over, drawing."""

from blotsure.dots import apart, column_of, is_height, lines_of
from blotsure.errors import NoSheet, NotAlike, OffStrip

DOT = "#"
NO_DOT = "."


def gap(one, other):
    check_alike(one, other)
    return sum([apart(left, right) for left, right in zip(one, other)])


def spots_apart(one, other):
    check_alike(one, other)
    spots = []
    for x in range(len(one)):
        spots.extend([(x, y) for y in lines_of(one[x] ^ other[x])])
    return spots


def check_alike(one, other):
    if len(one) != len(other):
        raise NotAlike("the strips have unlike numbers of columns")


def turned(height, strip, spots):
    answer = list(strip)
    for x, y in spots:
        # Python would take an x below 0 as counted from the end.
        if not (0 <= x < len(strip) and 0 <= y < height):
            raise OffStrip("a spot lies off the strip")
        answer[x] = answer[x] ^ (1 << y)
    return answer


def drawn(height, strip):
    return [drawn_line(strip, y) for y in range(height)]


def drawn_line(strip, y):
    return "".join([DOT if (column >> y) & 1 else NO_DOT for column in strip])


def undrawn(lines):
    # As many texts as a strip can have lines.
    if not is_height(len(lines)):
        raise NoSheet("there is no text, or there are too many")
    wide = len(lines[0])
    for line in lines:
        check_line(line, wide)
    return [column_at(lines, x) for x in range(wide)]


def check_line(line, wide):
    if len(line) != wide:
        raise NoSheet("the texts are of unlike lengths")
    for sign in line:
        if sign != DOT and sign != NO_DOT:
            raise NoSheet("a sign is neither a dot nor none")


def column_at(lines, x):
    return column_of([y for y, line in enumerate(lines) if line[x] == DOT])
