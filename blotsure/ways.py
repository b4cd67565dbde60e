"""Ways: the doors of a house that a font has letters for."""


def ways_of(font, house):
    letters = dict(font[1])
    return [lettered(letters, doors) for doors in house[0]]


def lettered(letters, doors):
    return [(sign, letters[sign], room) for sign, room in doors if sign in letters]
