import copy
import itertools
import unittest

from blotsure.far import far_paper, farness, mends
from blotsure.fonts import make_font
from blotsure.houses import make_house, takes
from blotsure.makers import book, both, free, padded, sums
from blotsure.near import nearest
from blotsure.setting import breadth, set_text
from blotsure.stands import stands
from blotsure.strips import gap, spots_apart, turned
from far_cases import (
    EVEN, FEW, MANY, MIXED, RING, TALL, allowed_by_width, farness_by_pairs, least_gap, paper_by_rounds,
    rows_of_steps,
)
from helpers import Draw, assert_all_tuples
from near_cases import FONT, NARROW, ONE_WIDE, drawn_strip, fewer_doors

# Of MIXED, x and y are [1], z is [1, 1], u is [3, 0], v is [0, 2, 3], w is [2].


def is_even(house, stand):
    return stand[2] == () and stand[0] in house[1] and stand[1] in house[1]


class FarPaperTest(unittest.TestCase):
    def test_some_by_hand(self):
        self.assertEqual(far_paper(MIXED, free("x")), [])
        self.assertEqual(far_paper(MIXED, free("xy")), [((0, 0, ()), 0, 0), ((0, 0, (1,)), 0, 1)])
        wanted = [((0, 0, ()), 0, 0), ((0, 0, (1,)), 0, 1), ((0, 0, (1, 1)), 0, 1)]
        self.assertEqual(far_paper(MIXED, free("xz")), wanted)
        wanted = [((1, 3, (1,)), 0, 1), ((2, 3, ()), 0, 0)]
        self.assertEqual(far_paper(MIXED, book(["xx", "z"])), wanted)
        # Behind u is w alone, behind w nothing is as wide as u.
        self.assertEqual(far_paper(MIXED, book(["u", "w"])), [((2, 1, (0,)), None, None)])

    def test_in_the_order_of_stands(self):
        for font, house in MANY:
            told = far_paper(font, house)
            self.assertEqual([row[0] for row in told], stands(font, house), house)
            self.assertEqual(told, sorted(told, key=lambda row: row[0]))

    def test_nought_and_nought_of_even_stands_alone(self):
        even = 0
        for font, house in MANY:
            for stand, cost, letters in far_paper(font, house):
                even += is_even(house, stand)
                self.assertEqual((cost, letters) == (0, 0), is_even(house, stand))
                self.assertEqual(letters == 0, is_even(house, stand))
        self.assertGreater(even, 50)

    def test_both_rooms_have_to_be_ends(self):
        doors = [[("x", 1), ("y", 2)], [], []]
        self.assertEqual(far_paper(MIXED, make_house(doors, [1, 2])), [((1, 2, ()), 0, 0)])
        for ends in ([1], [2], [0, 1], [0]):
            self.assertEqual(far_paper(MIXED, make_house(doors, ends)), [((1, 2, ()), None, None)])

    def test_none_and_none_where_no_steps_lead_to_an_even_stand(self):
        for font, house in MANY:
            for stand, cost, letters in far_paper(font, house):
                self.assertEqual(cost is None, letters is None)
        for row in far_paper(MIXED, make_house([[("x", 0), ("y", 0), ("z", 0)]], [])):
            self.assertEqual(row[1:], (None, None))
        # Round and round in rooms from which there is no way out.
        house = make_house([[("x", 1), ("y", 1), ("w", 2)], [("x", 1), ("z", 1)], []], [2])
        for row in far_paper(MIXED, house):
            self.assertEqual(row[1:], (None, None))

    def test_by_rounds(self):
        for font, house in MANY:
            self.assertEqual(far_paper(font, house), paper_by_rounds(font, house), house)

    def test_by_all_rows_of_steps_where_they_are_few(self):
        looked = 0
        for font, house in FEW:
            told = far_paper(font, house)
            if len(told) <= 9:
                looked += len(told)
                for stand, cost, letters in told:
                    rows = list(rows_of_steps(font, house, stand, {stand}))
                    self.assertEqual((cost, letters), min(rows, default=(None, None)), (house, stand))
        self.assertGreater(looked, 40)

    def test_the_least_sum_ahead_of_the_least_number_of_steps(self):
        # From behind x and y: at once by w, which costs 2 dots, or by way of two steps more that cost nothing.
        doors = [[("x", 1), ("y", 2)], [("w", 3), ("x", 4)], [("x", 3), ("y", 5)], [], [("x", 3)], [("y", 3)]]
        house = make_house(doors, [3])
        told = dict((row[0], row[1:]) for row in far_paper(MIXED, house))
        self.assertEqual(told[(1, 2, ())], (0, 4))
        # The same without that way.
        doors[4] = []
        told = dict((row[0], row[1:]) for row in far_paper(MIXED, make_house(doors, [3])))
        self.assertEqual(told[(1, 2, ())], (2, 2))

    def test_of_rows_with_the_least_sum_the_least_number_of_steps(self):
        # Either z and z, or x and x and y and y: nothing costs a dot.
        doors = [[("x", 1), ("y", 2)], [("x", 3), ("z", 4)], [("y", 5), ("z", 4)], [("x", 4)], [], [("y", 4)]]
        told = dict((row[0], row[1:]) for row in far_paper(MIXED, make_house(doors, [4])))
        self.assertEqual(told[(1, 2, ())], (0, 2))
        doors[2] = [("y", 5)]
        told = dict((row[0], row[1:]) for row in far_paper(MIXED, make_house(doors, [4])))
        self.assertEqual(told[(1, 2, ())], (0, 3))

    def test_rings_of_steps_that_cost_nothing(self):
        told = far_paper(MIXED, RING)
        self.assertEqual(told, paper_by_rounds(MIXED, RING))
        self.assertTrue(any(row[1] is None for row in told))
        self.assertTrue(any(row[1] is not None and row[2] > 1 for row in told))
        free_ring = far_paper(MIXED, free("xyz"))
        self.assertEqual({row[1] for row in free_ring}, {0})

    def test_a_long_way_to_an_end(self):
        # In steps of 1 dot each, as long as a house can be.
        font = make_font(2, [("a", [0]), ("b", [1]), ("x", [2]), ("y", [2])])
        doors = [[("x", 1), ("y", 20)]] + [[("a", room + 1)] for room in range(1, 19)] + [[]]
        doors += [[("b", room + 1)] for room in range(20, 38)] + [[]]
        told = dict((row[0], row[1:]) for row in far_paper(font, make_house(doors, [19, 38])))
        self.assertEqual(told[(1, 20, ())], (18, 36))
        self.assertEqual(told[(19, 38, ())], (0, 0))

    def test_great_costs(self):
        font = make_font(60, [("a", [0] * 8), ("b", [2 ** 60 - 1] * 8), ("x", [1]), ("y", [1])])
        doors = [[("x", 1), ("y", 2)], [("a", 3)], [("b", 3)], []]
        told = dict((row[0], row[1:]) for row in far_paper(font, make_house(doors, [3])))
        self.assertEqual(told[(1, 2, ())], (480, 2))

    def test_about_as_many_stands_as_are_promised(self):
        draw = Draw(3)
        signs = "abcdefghij"
        font = make_font(5, [(sign, drawn_strip(draw, (5,), (3, 4, 5)[k % 3])) for k, sign in enumerate(signs)])
        house = sums(signs, 10)
        self.assertEqual(far_paper(font, house), paper_by_rounds(font, house))

    def test_signs_that_the_font_lacks(self):
        for font, house in MANY:
            self.assertEqual(far_paper(font, house), far_paper(font, fewer_doors(font, house)))

    def test_what_is_handed_in_stays_and_what_is_told_is_the_askers_own(self):
        for font, house in MANY:
            before = copy.deepcopy((font, house))
            told, again = far_paper(font, house), far_paper(font, house)
            self.assertEqual((font, house), before)
            self.assertIs(type(told), list)
            for row in told:
                self.assertEqual([type(part) for part in row[:1]], [tuple])
                assert_all_tuples(self, row[0])
                self.assertTrue({type(part) for part in row[1:]} in ({int}, {type(None)}))
                self.assertIs(type(row), tuple)
            wanted = list(again)
            told.append(None)
            self.assertEqual(again, wanted)
            self.assertEqual(far_paper(font, house), wanted)


class FarnessTest(unittest.TestCase):
    def assert_stands_to_it(self, font, house, told):
        """Both texts are allowed, differ, have one width, just that gap, their order, and are not too long."""
        far, one, other = told
        signs = {sign for sign, _ in font[1]}
        self.assertIs(type(told), tuple)
        self.assertEqual([type(part) for part in told], [int, str, str])
        self.assertLess(one, other)
        for text in (one, other):
            self.assertIs(takes(house, text), True)
            self.assertTrue(set(text) <= signs)
            self.assertLessEqual(len(text), len(house[0]) + len(stands(font, house)))
        self.assertEqual(breadth(font, one), breadth(font, other))
        self.assertEqual(gap(set_text(font, one), set_text(font, other)), far)

    def test_some_by_hand(self):
        self.assertEqual(farness(MIXED, book(["x", "w"])), (2, "w", "x"))
        self.assertEqual(farness(MIXED, book(["u", "z", "v"])), (2, "u", "z"))
        self.assertEqual(farness(EVEN, book(["ab", "ba", "cc", "dd"]))[0], 6)
        self.assertEqual(farness(EVEN, book(["ab", "ba"])), (12, "ab", "ba"))
        self.assertEqual(farness(NARROW, free("ac")), (2, "a", "c"))
        self.assertEqual(farness(TALL, book(["a", "b"])), (61, "a", "b"))

    def test_held_against_all_pairs(self):
        compared = 0
        for font, house in MANY:
            widest = 4 if font == FONT else 5
            wanted = farness_by_pairs(font, house, widest)
            told = farness(font, house)
            if told is None:
                self.assertIsNone(wanted, house)
            else:
                self.assert_stands_to_it(font, house, told)
                if wanted is not None and breadth(font, told[1]) <= widest:
                    compared += 1
                    self.assertEqual(told[0], wanted, house)
                elif wanted is not None:
                    self.assertLessEqual(told[0], wanted)
        self.assertGreater(compared, 25)

    def test_held_against_all_pairs_of_drawn_words(self):
        draw = Draw(47)
        for _ in range(150):
            words = ["".join(draw.one_of("xyzuvw") for _ in range(draw.below(4))) for _ in range(draw.below(6) + 2)]
            house = book(words)
            wanted = least_gap([set_text(MIXED, word) for word in sorted(set(words))])
            told = farness(MIXED, house)
            if wanted is None:
                self.assertIsNone(told, words)
            else:
                self.assertEqual(told[0], wanted, words)
                self.assert_stands_to_it(MIXED, house, told)

    def test_held_against_all_pairs_of_drawn_houses(self):
        draw = Draw(53)
        for _ in range(150):
            rooms = 1 + draw.below(4)
            doors = [[(sign, draw.below(rooms)) for sign in "xyzuvwq" if draw.below(3) == 0] for _ in range(rooms)]
            house = make_house(doors, [room for room in range(rooms) if draw.below(2)])
            wanted = farness_by_pairs(MIXED, house, 5)
            told = farness(MIXED, house)
            if told is None:
                self.assertIsNone(wanted, house)
            else:
                self.assert_stands_to_it(MIXED, house, told)
                if breadth(MIXED, told[1]) <= 5:
                    self.assertEqual(told[0], wanted, house)
                else:
                    self.assertTrue(wanted is None or told[0] <= wanted)

    def test_far_nought(self):
        told = farness(MIXED, free("xy"))
        self.assertEqual(told, (0, "x", "y"))
        told = farness(MIXED, book(["z", "xy"]))
        self.assertEqual(told, (0, "xy", "z"))
        told = farness(MIXED, free("xz"))
        self.assertEqual(told[0], 0)
        self.assert_stands_to_it(MIXED, free("xz"), told)

    def test_texts_that_part_early_and_meet_late(self):
        # As wide only where three of u (two columns) meet two of v (three columns).
        house = make_house([[("u", 1), ("v", 4)], [("u", 2)], [("u", 3)], [], [("v", 3)]], [3])
        self.assertEqual(farness(MIXED, house), (gap([3, 0] * 3, [0, 2, 3] * 2), "uuu", "vv"))

    def test_texts_with_a_long_beginning_in_common(self):
        doors = [[("x", room + 1)] for room in range(37)] + [[("u", 38), ("z", 39)], [], []]
        wanted = (2, "x" * 37 + "u", "x" * 37 + "z")
        self.assertEqual(farness(MIXED, make_house(doors, [38, 39])), wanted)

    def test_one_is_first_whichever_was_behind(self):
        for words in (["uw", "v"], ["wu", "v"], ["xu", "v"], ["vx", "uu"], ["xv", "zz"], ["xxxx", "wv"]):
            told = farness(MIXED, book(words))
            self.assertEqual(told[1:], tuple(sorted(words)))
            self.assertEqual(told[0], gap(set_text(MIXED, words[0]), set_text(MIXED, words[1])))

    def test_none_where_no_two_different_allowed_texts_have_one_width(self):
        for house in (
            free(""), free("x"), free("q"), free("qx"), book([]), book([""]), book(["u"]), book(["u", "w", "v"]),
            book(["u", "w", "xq", "zq"]), make_house([[("x", 0), ("y", 0)]], []), sums("x", 7),
            make_house([[("x", 1), ("y", 2)], [("x", 1)], [("y", 2)]], [1]),
        ):
            self.assertIsNone(farness(MIXED, house))
            self.assertIsNone(mends(MIXED, house))
        self.assertIsNone(farness(ONE_WIDE, free("w")))

    def test_a_sum_parts_texts(self):
        # By themselves a and c differ in 2 dots; with a sum at least two letters differ.
        self.assertEqual(farness(NARROW, free("ac"))[0], 2)
        self.assertEqual(farness(NARROW, sums("ac", 2))[0], 4)
        self.assertEqual(farness(EVEN, sums("ab", 2))[0], 12)
        self.assertEqual(farness(NARROW, sums("ac", 3))[0], 4)

    def test_signs_that_the_font_lacks(self):
        self.assertEqual(farness(MIXED, free("qxw")), (2, "w", "x"))
        self.assertEqual(farness(MIXED, book(["qx", "qy", "u", "z"])), (2, "u", "z"))
        for font, house in MANY:
            self.assertEqual(farness(font, house), farness(font, fewer_doors(font, house)))

    def test_about_as_many_stands_as_are_promised(self):
        draw = Draw(3)
        signs = "abcdefghij"
        font = make_font(5, [(sign, drawn_strip(draw, (5,), (3, 4, 5)[k % 3])) for k, sign in enumerate(signs)])
        for house in (sums(signs, 10), sums(signs, 3, (1, 2, 0)), both(sums(signs, 2), sums(signs[::-1], 5))):
            self.assert_stands_to_it(font, house, farness(font, house))

    def test_what_is_handed_in_stays(self):
        for ask in (farness, mends):
            for font, house in MANY:
                before = copy.deepcopy((font, house))
                self.assertEqual(ask(font, house), ask(font, house))
                self.assertEqual((font, house), before)


def pair_with(dots):
    """A font and a house of just two texts that differ in so many dots."""
    return make_font(10, [("a", [0]), ("b", [2 ** dots - 1])]), book(["a", "b"])


class MendsTest(unittest.TestCase):
    def test_of_each_far(self):
        for dots, wanted in ((0, -1), (1, 0), (2, 0), (3, 1), (4, 1), (5, 2), (6, 2), (7, 3), (10, 4)):
            font, house = pair_with(dots)
            self.assertEqual(farness(font, house), (dots, "a", "b"))
            self.assertEqual(mends(font, house), wanted)
            self.assertIs(type(mends(font, house)), int)
        self.assertIsNone(mends(*pair_with(3)[:1], book(["a"])))

    def test_of_all_cases(self):
        for font, house in MANY:
            told = farness(font, house)
            self.assertEqual(mends(font, house), None if told is None else (told[0] - 1) // 2)

    # Of each of these some texts are written down, and each turned over at all spots that may be chosen.
    SPOILT = (
        (EVEN, sums("ab", 2), 4), (EVEN, book(["ab", "ba", "cc", "dd"]), 4), (EVEN, free("abcd"), 4),
        (NARROW, sums("ac", 2), 3), (NARROW, sums("ac", 3), 3), (MIXED, sums("uw", 3), 5), (MIXED, book(["u", "x"]), 3),
        (MIXED, book(["vw", "uu", "zxw", "x"]), 4), (TALL, book(["c"]), 1), (ONE_WIDE, free("w"), 0),
        (make_font(3, [("a", [7, 0, 7]), ("b", [0, 7, 0]), ("-", [0])]), padded(book(["a", "b", "ab"]), "-"), 4),
    )

    def strips_turned(self, font, picture, many):
        spots = [(x, y) for x in range(len(picture)) for y in range(font[0])]
        for size in range(min(many, len(spots)) + 1):
            for chosen in itertools.combinations(spots, size):
                yield size, turned(font[0], picture, list(chosen))

    def test_no_more_dots_than_told_leave_the_text_the_only_nearest(self):
        looked = 0
        for font, house, widest in self.SPOILT:
            told = mends(font, house)
            if told is None:
                continue
            for texts in allowed_by_width(font, house, widest):
                for text, picture in texts:
                    for size, strip in self.strips_turned(font, picture, told):
                        looked += 1
                        self.assertEqual(nearest(font, house, strip), (text, size, 1))
        self.assertGreater(looked, 3000)

    def test_none_however_many(self):
        font = make_font(2, [("x", [1]), ("u", [3, 0]), ("v", [0, 2, 3])])
        house = book(["x", "u", "v"])
        self.assertIsNone(mends(font, house))
        for text in ("x", "u", "v"):
            picture = set_text(font, text)
            for size, strip in self.strips_turned(font, picture, 6):
                self.assertEqual(nearest(font, house, strip), (text, size, 1))

    def test_no_greater_number_would_do(self):
        for font, house in MANY:
            told = farness(font, house)
            if told is not None:
                far, one, other = told
                picture = set_text(font, one)
                spots = spots_apart(picture, set_text(font, other))
                strip = turned(font[0], picture, spots[:mends(font, house) + 1])
                self.assertEqual(gap(picture, strip), mends(font, house) + 1)
                text, _, many = nearest(font, house, strip)
                self.assertFalse(text == one and many == 1)


if __name__ == "__main__":
    unittest.main()
