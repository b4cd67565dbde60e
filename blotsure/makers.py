"""Makers of houses: free, of words, of sums, of two houses, and padded with a filler."""

from blotsure.dots import is_sign, is_whole
from blotsure.errors import NoHouse
from blotsure.houses import check_rooms, make_house, room_behind

PLAIN_WHEEL = (1,)
GREATEST_ON_WHEEL = 1000


def free(signs):
    return make_house([[(sign, 0) for sign in signs]], [0])


def book(words):
    numbers = numbers_of(beginnings(words))
    doors = [[] for number in numbers]
    for beginning in numbers:
        if beginning != "":
            doors[numbers[beginning[:-1]]].append((beginning[-1], numbers[beginning]))
    return make_house(doors, [numbers[word] for word in sorted(set(words))])


def beginnings(words):
    found = {"": True}
    for word in words:
        for length in range(1, len(word) + 1):
            found[word[:length]] = True
            # Here already, since many long words have far more beginnings than need be kept.
            check_rooms(len(found))
    return sorted(found)


def numbers_of(things):
    numbers = {}
    for number, thing in enumerate(things):
        numbers[thing] = number
    return numbers


def sums(signs, many, wheel=None):
    numbers = PLAIN_WHEEL if wheel is None else wheel
    if not (is_whole(many) and many >= 1):
        raise NoHouse("so many rests there can't be")
    check_wheel(numbers)
    # Ahead of making the rooms, since many may be far too great for that.
    check_rooms(many * len(numbers))
    doors = []
    for turn in range(len(numbers)):
        later = (turn + 1) % len(numbers) * many
        doors.extend([sums_doors(signs, many, rest, numbers[turn], later) for rest in range(many)])
    return make_house(doors, [turn * many for turn in range(len(numbers))])


def check_wheel(numbers):
    if len(numbers) == 0:
        raise NoHouse("the wheel has no numbers")
    for number in numbers:
        if not (is_whole(number) and 0 <= number <= GREATEST_ON_WHEEL):
            raise NoHouse("the wheel has something else than its numbers")


def sums_doors(signs, many, rest, number, later):
    return [(sign, later + (rest + worth * number) % many) for worth, sign in enumerate(signs, start=1)]


def both(one, other):
    pairs = [(0, 0)]
    numbers = {(0, 0): 0}
    doors = []
    while len(doors) < len(pairs):
        leads = leads_of_both(one, other, pairs[len(doors)])
        for sign, pair in leads:
            if pair not in numbers:
                numbers[pair] = len(pairs)
                pairs.append(pair)
        doors.append([(sign, numbers[pair]) for sign, pair in leads])
    ends = [numbers[pair] for pair in pairs if pair[0] in one[1] and pair[1] in other[1]]
    return make_house(doors, ends)


def leads_of_both(one, other, pair):
    leads = []
    for sign, room in one[0][pair[0]]:
        beside = room_behind(other[0][pair[1]], sign)
        if beside is not None:
            leads.append((sign, (room, beside)))
    return leads


def padded(house, filler):
    # First, since something that is no sign might call itself like one.
    if not is_sign(filler):
        raise NoHouse("the filler is no sign")
    for pairs in house[0]:
        if room_behind(pairs, filler) is not None:
            raise NoHouse("the filler is the sign of a door")
    last = len(house[0])
    doors = [list(pairs) for pairs in house[0]] + [[]]
    ends = list(house[1]) + [last]
    for end in ends:
        doors[end].append((filler, last))
    return make_house(doors, ends)
