"""Sheets: strips drawn one beneath the other, and read back."""

from blotsure.errors import NoSheet
from blotsure.strips import check_alike, check_line, drawn, undrawn


def sheet(height, strips):
    lines = []
    for strip in strips:
        check_alike(strips[0], strip)
        lines.extend(drawn(height, strip))
    return lines


def strips_of(height, lines):
    if len(lines) % height != 0:
        raise NoSheet("the texts can't be divided by the height")
    # Over all strips, since each by itself might have texts of one length.
    for line in lines:
        check_line(line, len(lines[0]))
    return [undrawn(lines[first:first + height]) for first in range(0, len(lines), height)]
