import copy
import unittest

from blotsure.fonts import make_font
from blotsure.houses import make_house
from blotsure.makers import book, free, sums
from blotsure.stands import begins, stands, steps
from far_cases import FEW, MANY, MIXED, allowed_by_width, begins_by_pairs, stands_by_steps, steps_by_hand
from helpers import Draw, assert_all_tuples
from near_cases import NARROW, dots_apart, drawn_strip, fewer_doors

# Of MIXED, x and y are [1], z is [1, 1], u is [3, 0], v is [0, 2, 3], w is [2].


def assert_own(case, ask, *things):
    """A list of tuples all the way down, and a new one each time."""
    told, again = ask(*things), ask(*things)
    case.assertIs(type(told), list)
    for thing in told:
        case.assertIs(type(thing), tuple)
        assert_all_tuples(case, thing)
    wanted = list(again)
    told.append(None)
    case.assertEqual(again, wanted)
    case.assertEqual(ask(*things), wanted)


def assert_left(case, ask, *things):
    before = copy.deepcopy(things)
    ask(*things)
    case.assertEqual(things, before)


class BeginsTest(unittest.TestCase):
    def test_of_a_house_with_one_door(self):
        self.assertEqual(begins(MIXED, free("x")), [])
        self.assertEqual(begins(MIXED, free("")), [])
        self.assertEqual(begins(MIXED, make_house([[("x", 1)], [("y", 0)]], [0, 1])), [])

    def test_of_letters_that_are_as_wide(self):
        self.assertEqual(begins(MIXED, free("xw")), [(2, (0, 0, ()))])
        house = make_house([[("y", 1), ("w", 2)], [], []], [])
        # w comes first, whatever order the doors were told in.
        self.assertEqual(begins(MIXED, house), [(2, (2, 1, ()))])

    def test_of_letters_that_are_less_wide_and_wider(self):
        house = make_house([[("v", 1), ("w", 2)], [], []], [])
        self.assertEqual(begins(MIXED, house), [(1, (2, 1, (2, 3)))])
        house = make_house([[("u", 1), ("v", 2)], [], []], [])
        self.assertEqual(begins(MIXED, house), [(3, (1, 2, (3,)))])
        house = make_house([[("u", 1), ("x", 2)], [], []], [])
        self.assertEqual(begins(MIXED, house), [(1, (2, 1, (0,)))])

    def test_of_letters_with_the_same_columns(self):
        self.assertEqual(begins(MIXED, free("xy")), [(0, (0, 0, ()))])
        self.assertEqual(begins(MIXED, book(["x", "y"])), [(0, (1, 2, ()))])
        self.assertEqual(begins(MIXED, free("xz")), [(0, (0, 0, (1,)))])

    def test_of_many_doors_each_once_and_sorted(self):
        # Some pairs of these 15 have the same cost and the same stand.
        wanted = [
            (0, (0, 0, ())), (0, (0, 0, (1,))), (1, (0, 0, (0,))), (1, (0, 0, (2, 3))), (2, (0, 0, ())),
            (2, (0, 0, (1,))), (3, (0, 0, (3,))),
        ]
        self.assertEqual(begins(MIXED, free("xyzuvw")), wanted)

    def test_by_pairs_of_doors(self):
        for font, house in MANY:
            told = begins(font, house)
            self.assertEqual(told, begins_by_pairs(font, house), house)
            self.assertEqual(told, sorted(set(told)))

    def test_rooms_to_which_no_text_of_the_fonts_signs_leads(self):
        doors = [[("x", 1), ("q", 2)], [("x", 1)], [("x", 3), ("w", 4)], [], [], [("u", 3), ("v", 4)]]
        self.assertEqual(begins(MIXED, make_house(doors, [3, 4])), [])
        doors[1].append(("y", 2))
        self.assertEqual(begins(MIXED, make_house(doors, [3, 4])), [(0, (1, 2, ())), (2, (4, 3, ()))])

    def test_rooms_from_which_no_end_is_reached_have_their_begins_too(self):
        self.assertEqual(begins(MIXED, make_house([[("x", 0), ("y", 0)]], [])), [(0, (0, 0, ()))])

    def test_signs_that_the_font_lacks(self):
        self.assertEqual(begins(MIXED, free("qxz")), [(0, (0, 0, (1,)))])
        self.assertEqual(begins(MIXED, free("qx")), [])
        self.assertEqual(begins(MIXED, free("qp")), [])
        for font, house in MANY:
            fewer = fewer_doors(font, house)
            self.assertEqual(begins(font, house), begins(font, fewer))

    def test_what_is_handed_in_stays_and_what_is_told_is_the_askers_own(self):
        for font, house in MANY:
            assert_own(self, begins, font, house)
            assert_left(self, begins, font, house)


class StepsTest(unittest.TestCase):
    def setUp(self):
        self.house = make_house([[("x", 1), ("z", 2), ("u", 3), ("v", 0), ("q", 1)], [], [("w", 2)], []], [0])

    def test_over_is_empty(self):
        wanted = [
            ("u", 0, (1, 3, (3, 0))), ("v", 0, (1, 0, (0, 2, 3))), ("x", 0, (1, 1, (1,))), ("z", 0, (1, 2, (1, 1))),
        ]
        self.assertEqual(steps(MIXED, self.house, (0, 1, ())), wanted)

    def test_over_is_as_wide_wider_and_less_wide(self):
        wanted = [("u", 3, (3, 1, ())), ("v", 2, (1, 0, (3,))), ("x", 0, (1, 1, (3,))), ("z", 1, (2, 1, ()))]
        self.assertEqual(steps(MIXED, self.house, (0, 1, (1, 3))), wanted)
        wanted = [
            ("u", 1, (3, 2, (2, 1, 0))), ("v", 3, (0, 2, (1, 0))), ("x", 0, (1, 2, (0, 2, 1, 0))),
            ("z", 1, (2, 2, (2, 1, 0))),
        ]
        self.assertEqual(steps(MIXED, self.house, (0, 2, (1, 0, 2, 1, 0))), wanted)

    def test_of_rooms_without_doors_and_with_one(self):
        self.assertEqual(steps(MIXED, self.house, (1, 0, (1, 2))), [])
        self.assertEqual(steps(MIXED, self.house, (3, 3, ())), [])
        self.assertEqual(steps(MIXED, self.house, (2, 0, (1, 2))), [("w", 2, (2, 0, (2,)))])
        self.assertEqual(steps(MIXED, self.house, (2, 0, (1,))), [("w", 2, (2, 0, ()))])
        self.assertEqual(steps(MIXED, self.house, (2, 0, ())), [("w", 0, (0, 2, (2,)))])

    def test_over_of_eight_columns(self):
        over = (0, 3, 0, 3, 0, 3, 0, 3)
        self.assertEqual(steps(MIXED, self.house, (2, 3, over)), [("w", 1, (2, 3, over[1:]))])
        font = make_font(60, [("w", [2 ** 60 - 1] * 8), ("v", [0] * 7)])
        house = make_house([[("v", 1), ("w", 0)], []], [1])
        wanted = [("v", 0, (1, 0, (0,))), ("w", 480, (0, 0, ()))]
        self.assertEqual(steps(font, house, (0, 0, (0,) * 8)), wanted)
        wanted = [("v", 420, (1, 1, ())), ("w", 0, (1, 0, (2 ** 60 - 1,)))]
        self.assertEqual(steps(font, house, (0, 1, (2 ** 60 - 1,) * 7)), wanted)

    def test_of_any_two_rooms_and_any_over(self):
        draw = Draw(41)
        for font, house in MANY:
            for _ in range(12):
                over = tuple(drawn_strip(draw, font, draw.below(9)))
                stand = (draw.below(len(house[0])), draw.below(len(house[0])), over)
                told = steps(font, house, stand)
                self.assertEqual(told, steps_by_hand(font, house, stand), (house, stand))
                self.assertEqual([step[0] for step in told], sorted(step[0] for step in told))

    def test_signs_that_the_font_lacks(self):
        self.assertEqual(steps(MIXED, free("qp"), (0, 0, ())), [])
        self.assertEqual([step[0] for step in steps(NARROW, free("aqbz"), (0, 0, (1,)))], ["a", "b"])

    def test_what_is_handed_in_stays_and_what_is_told_is_the_askers_own(self):
        for stand in ((0, 1, ()), (0, 2, (1, 0, 2, 1, 0)), (1, 0, (1,)), (0, 0, (3, 0))):
            assert_own(self, steps, MIXED, self.house, stand)
            assert_left(self, steps, MIXED, self.house, stand)


class StandsTest(unittest.TestCase):
    def test_one_by_hand(self):
        # Two letters of unlike widths: one column is over, or both columns of z, or none.
        self.assertEqual(stands(MIXED, free("xz")), [(0, 0, ()), (0, 0, (1,)), (0, 0, (1, 1))])
        house = book(["xx", "z"])
        self.assertEqual(stands(MIXED, house), [(1, 3, (1,)), (2, 3, ())])
        self.assertEqual(stands(MIXED, book(["x", "w"])), [(1, 2, ())])

    def test_of_houses_without_begins(self):
        ring = make_house([[("x", 1)], [("y", 0)]], [0])
        for house in (free("x"), free(""), free("qx"), book([]), book(["xyx"]), ring):
            self.assertEqual(begins(MIXED, house), [])
            self.assertEqual(stands(MIXED, house), [])

    def test_all_to_which_begins_and_steps_lead(self):
        for font, house in MANY:
            told = stands(font, house)
            self.assertEqual(told, stands_by_steps(font, house), house)
            self.assertEqual(told, sorted(set(told)))

    def test_stands_also_where_no_end_is_reached(self):
        self.assertEqual(stands(MIXED, make_house([[("x", 1), ("y", 2)], [], [("w", 1)]], [])), [(1, 2, ())])
        self.assertEqual(
            stands(MIXED, make_house([[("x", 1), ("y", 2)], [("w", 1)], []], [])), [(1, 2, ()), (2, 1, (2,))],
        )

    def test_two_texts_are_led_through_stands_and_cost_their_gap(self):
        for font, house in FEW:
            known = set(stands(font, house))
            for texts in allowed_by_width(font, house, 4):
                for one, picture in texts[:12]:
                    for other, beside in texts[:12]:
                        if one < other:
                            costs = self.costs_of_both(font, house, one, other, known)
                            self.assertEqual(costs, dots_apart(picture, beside), (one, other))

    def costs_of_both(self, font, house, one, other, known):
        """Both texts set side by side by begins and steps alone; the one that is behind is always given a letter."""
        letters = dict(font[1])
        place = 0
        while one[place] == other[place]:
            place += 1
        x, y = letters[one[place]], letters[other[place]]
        left = [list(one[place + 1:]), list(other[place + 1:])]
        behind = 0 if len(x) <= len(y) else 1
        found = [
            begin for begin in begins(font, house)
            if begin[0] == dots_apart(x, y) and begin[1][2] == (y[len(x):] if behind == 0 else x[len(y):])
        ]
        rooms = [self.room_of(house, one[:place + 1]), self.room_of(house, other[:place + 1])]
        stand = (rooms[behind], rooms[1 - behind], found[0][1][2])
        self.assertIn((dots_apart(x, y), stand), found)
        total = dots_apart(x, y)
        while left[behind]:
            self.assertIn(stand, known)
            sign = left[behind].pop(0)
            passes = len(letters[sign]) > len(stand[2])
            cost, stand = [step[1:] for step in steps(font, house, stand) if step[0] == sign][0]
            total += cost
            behind = 1 - behind if passes else behind
        self.assertIn(stand, known)
        self.assertEqual(stand[2], ())
        self.assertEqual(left, [[], []])
        return total

    def room_of(self, house, text):
        room = 0
        for sign in text:
            room = dict(house[0][room])[sign]
        return room

    def test_about_as_many_as_are_promised(self):
        signs = "abcdefghij"
        widths = (3, 4, 5)
        draw = Draw(3)
        font = make_font(5, [(sign, drawn_strip(draw, (5,), widths[k % 3])) for k, sign in enumerate(signs)])
        told = stands(font, sums(signs, 10))
        self.assertEqual(told, stands_by_steps(font, sums(signs, 10)))
        self.assertGreater(len(told), 3000)
        self.assertLess(len(told), 5000)

    def test_signs_that_the_font_lacks(self):
        for font, house in MANY:
            fewer = fewer_doors(font, house)
            self.assertEqual(stands(font, house), stands(font, fewer))

    def test_what_is_handed_in_stays_and_what_is_told_is_the_askers_own(self):
        for font, house in MANY:
            assert_own(self, stands, font, house)
            assert_left(self, stands, font, house)


if __name__ == "__main__":
    unittest.main()
