"""Houses: rooms, the doors between them, and the texts that they take."""

from blotsure.dots import is_sign, is_whole
from blotsure.errors import NoHouse

MOST_ROOMS = 40


def make_house(doors, ends):
    rooms = len(doors)
    check_rooms(rooms)
    return (tuple([made_doors(pairs, rooms) for pairs in doors]), made_ends(ends, rooms))


def check_rooms(rooms):
    if not 1 <= rooms <= MOST_ROOMS:
        raise NoHouse("there are no rooms, or there are too many")


def made_doors(pairs, rooms):
    made = {}
    for sign, room in pairs:
        # First, since what is no sign may not be fit to be looked up.
        if not is_sign(sign):
            raise NoHouse("a door's sign is none")
        if sign in made:
            raise NoHouse("a sign comes twice in one room")
        check_room(room, rooms)
        made[sign] = room
    return tuple(sorted(made.items()))


def made_ends(ends, rooms):
    made = {}
    for end in ends:
        check_room(end, rooms)
        if end in made:
            raise NoHouse("an end comes twice")
        made[end] = True
    return tuple(sorted(made))


def check_room(room, rooms):
    if not (is_whole(room) and 0 <= room < rooms):
        raise NoHouse("a room that is named is not there")


def goes(house, text):
    room = 0
    for sign in text:
        room = room_behind(house[0][room], sign)
        if room is None:
            return None
    return room


def room_behind(doors, sign):
    for letter, room in doors:
        if letter == sign:
            return room
    return None


def takes(house, text):
    # A text that goes nowhere is told by None, which is no end.
    return goes(house, text) in house[1]
