"""How many allowed texts lie how far from a strip, and how many have a width."""

from blotsure.fonts import MOST_COLUMNS
from blotsure.near import gaps_at
from blotsure.ways import ways_of


# The texts from a room on are told as a tuple: the least gap, and a list of how many have it, how many have one more,
# and so on. The noughts ahead of the least gap are left out till the end, since there may be thousands of them.
def spread(font, house, strip):
    ways = ways_of(font, house)
    rows = [[(0, [1] if room in house[1] else []) for room in range(len(ways))]]
    for x in range(len(strip) - 1, -1, -1):
        gaps = gaps_at(font, strip, x)
        rows = with_row([spread_from(leads, gaps, rows) for leads in ways], rows)
    told = rows[0][0]
    return [0] * told[0] + told[1]


def with_row(row, rows):
    # No letter reaches beyond so many rows, and to keep all would be very much.
    return [row] + rows[:MOST_COLUMNS - 1]


def spread_from(leads, gaps, rows):
    parts = []
    for sign, columns, room in leads:
        if sign in gaps:
            behind = rows[len(columns) - 1][room]
            parts.append((gaps[sign] + behind[0], behind[1]))
    return added([part for part in parts if len(part[1]) > 0])


def added(parts):
    least = min([far for far, numbers in parts], default=0)
    total = [0] * (max([far + len(numbers) for far, numbers in parts], default=0) - least)
    for far, numbers in parts:
        for place, many in enumerate(numbers, start=far - least):
            total[place] += many
    return (least, total)


def counted(font, house, wide):
    ways = ways_of(font, house)
    rows = [[1 if room in house[1] else 0 for room in range(len(ways))]]
    for x in range(wide):
        rows = with_row([counted_from(leads, rows) for leads in ways], rows)
    return rows[0][0]


def counted_from(leads, rows):
    # Near the end some letters are too wide.
    return sum([rows[len(columns) - 1][room] for sign, columns, room in leads if len(columns) <= len(rows)])
