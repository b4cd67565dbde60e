import copy
import itertools
import unittest

from blotsure.houses import goes, make_house, takes
from helpers import NO_SIGNS, NO_WHOLES, VERY_FAR, Draw, assert_all_tuples, assert_refused

SIGNS = " !\"#$&'()*+,-./0123456789:;<=>?@ABCDEFGHIJKLMNOPQRSTUVWXYZ[\\]^_`abcdefghijklmnopqrstuvwxyz{|}~"


def plain_doors():
    return [[("b", 2), ("a", 1), (" ", 0)], [("c", 0), ("a", 1)], []]


def plain_ends():
    return [2, 1]


PLAIN = ((((" ", 0), ("a", 1), ("b", 2)), (("a", 1), ("c", 0)), ()), (1, 2))


class MakeHouseTest(unittest.TestCase):
    def test_doors_and_ends_in_any_order_are_sorted(self):
        draw = Draw(5)
        for _ in range(20):
            doors = [draw.shuffled(pairs) for pairs in plain_doors()]
            self.assertEqual(make_house(doors, draw.shuffled(plain_ends())), PLAIN)

    def test_it_is_tuples_all_the_way_down(self):
        assert_all_tuples(self, make_house(plain_doors(), plain_ends()))
        assert_all_tuples(self, make_house([[["a", 0], ["b", 0]]], [0]))

    def test_one_room(self):
        self.assertEqual(make_house([[]], []), (((),), ()))
        self.assertEqual(make_house([[]], [0]), (((),), (0,)))
        self.assertEqual(make_house([[("a", 0)]], [0]), (((("a", 0),),), (0,)))

    def test_forty_rooms(self):
        doors = [[("a", (room + 1) % 40)] for room in range(40)]
        house = make_house(doors, [39])
        self.assertEqual(house, (tuple((("a", (room + 1) % 40),) for room in range(40)), (39,)))

    def test_rooms_without_doors(self):
        self.assertEqual(make_house([[]] * 40, [3]), (((),) * 40, (3,)))

    def test_no_ends(self):
        self.assertEqual(make_house(plain_doors(), [])[1], ())

    def test_all_rooms_ends(self):
        self.assertEqual(make_house([[]] * 40, list(reversed(range(40))))[1], tuple(range(40)))

    def test_ends_are_rising_as_numbers(self):
        self.assertEqual(make_house([[]] * 12, [10, 9, 2, 11, 0])[1], (0, 2, 9, 10, 11))

    def test_each_sign_may_be_a_door(self):
        draw = Draw(3)
        house = make_house([draw.shuffled([(sign, 0) for sign in SIGNS])], [0])
        self.assertEqual(house, ((tuple((sign, 0) for sign in SIGNS),), (0,)))

    def test_one_sign_in_several_rooms(self):
        self.assertEqual(make_house([[("a", 1)], [("a", 0)]], []), (((("a", 1),), (("a", 0),)), ()))

    def test_what_was_handed_in_stays(self):
        doors, ends = plain_doors(), plain_ends()
        make_house(doors, ends)
        self.assertEqual((doors, ends), (plain_doors(), plain_ends()))

    def test_the_house_stays_when_what_was_handed_in_is_changed(self):
        doors, ends = plain_doors(), plain_ends()
        house = make_house(doors, ends)
        doors[0].clear()
        doors[1][0] = ("z", 2)
        doors[2].append(("a", 0))
        doors.append([])
        ends[0] = 0
        ends.append(3)
        self.assertEqual(house, PLAIN)
        self.assertEqual(make_house(plain_doors(), plain_ends()), PLAIN)


class NoHouseTest(unittest.TestCase):
    def assert_no_house(self, doors, ends):
        before = repr((doors, ends))
        assert_refused(self, "NoHouse", make_house, doors, ends)
        self.assertEqual(repr((doors, ends)), before)

    def test_no_rooms(self):
        self.assert_no_house([], [])
        self.assert_no_house([], [0])

    def test_more_than_forty_rooms(self):
        for many in (41, 42, 400):
            self.assert_no_house([[] for _ in range(many)], [])
            self.assert_no_house([[("a", 0)] for _ in range(many)], [0])

    def test_a_sign_that_is_none(self):
        for sign in NO_SIGNS:
            self.assert_no_house([[(sign, 0)]], [0])
            self.assert_no_house([[("a", 0), (sign, 0)]], [0])
            self.assert_no_house([[(sign, 0), ("a", 0)], []], [])
            self.assert_no_house([[("a", 1)], [("b", 0), (sign, 1), ("c", 1)]], [1])

    def test_a_sign_twice_in_one_room(self):
        for other in (0, 1):
            self.assert_no_house([[("a", 0), ("a", other)], []], [0])
            self.assert_no_house([[], [("a", 0), ("b", 1), ("a", other)]], [0])
            self.assert_no_house([[("a", 0)], [("b", 1), ("c", 0), ("c", other)]], [])

    def test_a_door_to_a_room_that_is_not_there(self):
        for rooms in (1, 2, 39, 40):
            for room in (-1, -rooms, rooms, rooms + 1, 400, VERY_FAR, -VERY_FAR) + NO_WHOLES:
                for where in {0, rooms - 1}:
                    doors = [[("b", 0)] for _ in range(rooms)]
                    doors[where].append(("a", room))
                    self.assert_no_house(doors, [0])
                    doors[where].reverse()
                    self.assert_no_house(doors, [0])

    def test_an_end_that_is_not_there(self):
        for rooms in (1, 2, 39, 40):
            for end in (-1, -rooms, rooms, rooms + 1, 400, VERY_FAR, -VERY_FAR) + NO_WHOLES:
                doors = [[("b", 0)] for _ in range(rooms)]
                self.assert_no_house(doors, [end])
                self.assert_no_house(doors, [rooms - 1, end])
                self.assert_no_house(doors, [end, rooms - 1])

    def test_an_end_twice(self):
        self.assert_no_house([[]], [0, 0])
        self.assert_no_house([[], []], [1, 0, 1])
        self.assert_no_house([[], [], []], [2, 2, 0])


class GoesAndTakesTest(unittest.TestCase):
    def test_no_signs(self):
        self.assertEqual(goes(PLAIN, ""), 0)
        self.assertIs(takes(PLAIN, ""), False)
        house = make_house([[("a", 1)], []], [0])
        self.assertEqual(goes(house, ""), 0)
        self.assertIs(takes(house, ""), True)

    def test_texts_that_go_to_an_end(self):
        for text, room in (("a", 1), ("aa", 1), ("b", 2), (" b", 2), ("acb", 2), ("aca", 1), ("   aac a", 1)):
            self.assertEqual(goes(PLAIN, text), room, text)
            self.assertIs(takes(PLAIN, text), True, text)

    def test_texts_that_go_to_a_room_that_is_no_end(self):
        for text in (" ", "  ", "ac", "aac", "acac "):
            self.assertEqual(goes(PLAIN, text), 0, text)
            self.assertIs(takes(PLAIN, text), False, text)

    def test_texts_that_go_nowhere(self):
        for text in ("c", "ba", "ab", "a ", "bb", "z", "az", "acc", "A", "abc", "ba" * 200, "z" + "a" * 399):
            self.assertIsNone(goes(PLAIN, text), text)
            self.assertIs(takes(PLAIN, text), False, text)

    def test_a_house_with_no_ends_takes_none(self):
        house = make_house([[("a", 0)]], [])
        for text in ("", "a", "aa", "b"):
            self.assertIs(takes(house, text), False)

    def test_long_texts(self):
        ring = make_house([[("a", (room + 1) % 40)] for room in range(40)], [0])
        for many in (1, 39, 40, 41, 399, 400):
            self.assertEqual(goes(ring, "a" * many), many % 40)
            self.assertIs(takes(ring, "a" * many), many % 40 == 0)

    def test_each_short_text_by_its_doors(self):
        doors = [{" ": 0, "a": 1, "b": 2}, {"a": 1, "c": 0}, {}]
        for many in range(5):
            for signs in itertools.product(" abcd", repeat=many):
                room = 0
                for sign in signs:
                    room = doors[room].get(sign) if room is not None else None
                self.assertEqual(goes(PLAIN, "".join(signs)), room)
                self.assertIs(takes(PLAIN, "".join(signs)), room in (1, 2))

    def test_the_house_stays(self):
        house = make_house(plain_doors(), plain_ends())
        wanted = copy.deepcopy(house)
        goes(house, "aac"), takes(house, "aac")
        self.assertEqual(house, wanted)


if __name__ == "__main__":
    unittest.main()
