import copy
import itertools
import unittest

from blotsure.houses import goes, make_house, takes
from blotsure.makers import book, both, free, padded, sums
from blotsure.tails import depths, tail
from helpers import Draw

# From room 0 both ways lead to an end behind two signs; room 4 is a ring without an end, room 5 a dead end,
# and to room 6, an end, nothing leads.
PLAIN = make_house(
    [[("b", 1), ("a", 2), ("x", 4), ("y", 5)], [("a", 3)], [("z", 3), ("c", 3), ("a", 0)], [("a", 0)],
     [("a", 4)], [], [("a", 5)]],
    [3, 6],
)


def ring(many, ends):
    return make_house([[("a", (room + 1) % many)] for room in range(many)], ends)


def drawn_house(draw):
    rooms = 1 + draw.below(6)
    doors = [[(sign, draw.below(rooms)) for sign in "abc" if draw.below(5) < 2] for _ in range(rooms)]
    return make_house(doors, [room for room in range(rooms) if draw.below(4) == 0])


def tails_by_trying(house, room):
    """All shortest texts from a room to an end, by trying all texts, in their order; no room lies farther than all."""
    for many in range(len(house[0])):
        found = []
        for signs in itertools.product("abc", repeat=many):
            at = room
            for sign in signs:
                at = dict(house[0][at]).get(sign) if at is not None else None
            if at in house[1]:
                found.append("".join(signs))
        if found:
            return sorted(found)
    return []


HOUSES = [drawn_house(Draw(seed)) for seed in range(60)]


class DepthsTest(unittest.TestCase):
    def test_no_ends(self):
        self.assertEqual(depths(make_house([[]], [])), [None])
        self.assertEqual(depths(ring(5, [])), [None] * 5)

    def test_all_rooms_ends(self):
        self.assertEqual(depths(free("ab")), [0])
        self.assertEqual(depths(ring(40, list(range(40)))), [0] * 40)

    def test_rooms_from_which_no_end_is_reached(self):
        self.assertEqual(depths(PLAIN), [2, 1, 1, 0, None, None, 0])

    def test_rings_of_rooms(self):
        self.assertEqual(depths(ring(5, [0])), [0, 4, 3, 2, 1])
        self.assertEqual(depths(ring(40, [39])), list(range(39, -1, -1)))
        self.assertEqual(depths(ring(6, [1, 3])), [1, 0, 1, 0, 3, 2])

    def test_forty_rooms_in_a_row_either_way(self):
        self.assertEqual(depths(book(["a" * 39])), list(range(39, -1, -1)))
        back = make_house([[]] + [[("a", room)] for room in range(39)], [0])
        self.assertEqual(depths(back), list(range(40)))

    def test_the_least_of_several(self):
        house = make_house([[("a", 1), ("b", 3)], [("a", 2)], [("a", 3)], []], [3])
        self.assertEqual(depths(house), [1, 2, 1, 0])

    def test_made_houses(self):
        self.assertEqual(depths(sums("ab", 5)), [0, 2, 2, 1, 1])
        self.assertEqual(depths(padded(book(["ab"]), "-")), [2, 1, 0, 0])
        self.assertEqual(depths(both(book(["a"]), book(["b"]))), [None])

    def test_drawn_houses_by_trying(self):
        for house in HOUSES:
            wanted = [tails_by_trying(house, room) for room in range(len(house[0]))]
            self.assertEqual(depths(house), [len(found[0]) if found else None for found in wanted])

    def test_the_list_told_is_the_askers_own_and_the_house_stays(self):
        before = copy.deepcopy(PLAIN)
        first, second = depths(PLAIN), depths(PLAIN)
        self.assertIsInstance(first, list)
        self.assertIsNot(first, second)
        first[0] = 99
        first.append(1)
        self.assertEqual(second, [2, 1, 1, 0, None, None, 0])
        self.assertEqual(depths(PLAIN), second)
        self.assertEqual(PLAIN, before)


class TailTest(unittest.TestCase):
    def test_texts_that_are_taken_as_they_are(self):
        self.assertEqual(tail(free("ab"), ""), "")
        self.assertEqual(tail(free("ab"), "abba"), "")
        for text in ("ba", "ac", "az", "aaba", "baaac"):
            self.assertEqual(tail(PLAIN, text), "", text)

    def test_one_sign(self):
        self.assertEqual(tail(PLAIN, "b"), "a")
        self.assertEqual(tail(PLAIN, "baab"), "a")

    def test_several_tails_as_short_the_first_in_the_order_of_texts(self):
        self.assertEqual(tail(PLAIN, "a"), "c")
        self.assertEqual(tail(PLAIN, ""), "ac")
        self.assertEqual(tail(PLAIN, "aa"), "ac")
        self.assertEqual(tail(book(["za", "ab", "aa", "b ", "Bz"]), ""), "Bz")
        self.assertEqual(tail(book(["~a", "~B", "~ ", "~~"]), "~"), " ")

    def test_the_shortest_ahead_of_the_first(self):
        self.assertEqual(tail(book(["aaa", "ab", "z"]), ""), "z")
        self.assertEqual(tail(book(["aaa", "ab", "z"]), "a"), "b")

    def test_the_first_sign_need_not_be_the_first_door(self):
        house = make_house([[("a", 1), ("b", 2)], [("a", 1)], [("c", 3)], []], [3])
        self.assertEqual(tail(house, ""), "bc")

    def test_several_signs(self):
        self.assertEqual(tail(book(["a" * 39]), ""), "a" * 39)
        self.assertEqual(tail(book(["abcdef"]), "ab"), "cdef")
        self.assertEqual(tail(ring(40, [0]), "a" * 361), "a" * 39)
        self.assertEqual(tail(sums("abc", 40), "a"), "c" * 13)
        self.assertEqual(tail(sums("abc", 40), ""), "")
        self.assertEqual(tail(sums("abc", 40), "b"), "b" + "c" * 12)

    def test_texts_that_lead_nowhere(self):
        for text in ("c", "bb", "ya", "q", "xb"):
            self.assertIsNone(tail(PLAIN, text), text)

    def test_texts_that_lead_to_a_room_from_which_no_end_is_reached(self):
        for text in ("x", "xaa", "y", "aax", "acay"):
            self.assertIsNotNone(goes(PLAIN, text))
            self.assertIsNone(tail(PLAIN, text), text)

    def test_a_house_with_no_ends(self):
        for text in ("", "a", "b"):
            self.assertIsNone(tail(make_house([[("a", 0)]], []), text))

    def test_drawn_houses_by_trying(self):
        for house in HOUSES:
            for many in range(4):
                for signs in itertools.product("abc", repeat=many):
                    text = "".join(signs)
                    room = goes(house, text)
                    wanted = [] if room is None else tails_by_trying(house, room)
                    told = tail(house, text)
                    self.assertEqual(told, wanted[0] if wanted else None)
                    self.assertTrue(told is None or takes(house, text + told))

    def test_the_house_stays(self):
        before = copy.deepcopy(PLAIN)
        tail(PLAIN, "a")
        self.assertEqual(PLAIN, before)


if __name__ == "__main__":
    unittest.main()
