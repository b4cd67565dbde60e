import copy
import unittest

from blotsure.fonts import make_font
from blotsure.houses import make_house, takes
from blotsure.makers import book, free, sums
from blotsure.near import near_paper, nearest
from blotsure.setting import set_text
from blotsure.strips import gap, turned
from helpers import Draw
from near_cases import (
    FONT, FONTS, HOUSES, NARROW, ODD, ONE_WIDE, cases, drawn_strip, fewer_doors, nearest_by_writing,
    paper_by_writing,
)

LARGE = make_font(60, [(sign, [2 ** place, 2 ** 59 + 2 ** (20 + place)]) for place, sign in enumerate("abcdefghij")])
# Of NARROW, a is [0], b and B are [1], c is [3].
BY_HAND = make_house([[("a", 1), ("b", 0), ("B", 0)], [("c", 0)]], [0])


class NearPaperTest(unittest.TestCase):
    def test_one_by_hand(self):
        wanted = [[(2, 10), (1, 4)], [(1, 4), (0, 2)], [(0, 2), (1, 1)], [(0, 1), None]]
        self.assertEqual(near_paper(NARROW, BY_HAND, [3, 3, 1]), wanted)

    def test_the_strip_without_columns(self):
        self.assertEqual(near_paper(FONT, free("ab"), []), [[(0, 1)]])
        self.assertEqual(near_paper(FONT, ODD, []), [[None, None, (0, 1), None, None, None, (0, 1)]])
        self.assertEqual(near_paper(FONT, book([]), []), [[None]])

    def test_by_writing_all_texts_down(self):
        for font, house, strip in cases():
            self.assertEqual(near_paper(font, house, strip), paper_by_writing(font, house, strip), (house, strip))

    def test_one_row_more_than_columns_and_one_thing_for_each_room(self):
        for font, house, strip in cases():
            paper = near_paper(font, house, strip)
            self.assertIsInstance(paper, list)
            self.assertEqual(len(paper), len(strip) + 1)
            for row in paper:
                self.assertIsInstance(row, list)
                self.assertEqual(len(row), len(house[0]))
                for thing in row:
                    self.assertTrue(thing is None or type(thing) is tuple)
                    self.assertTrue(thing is None or [type(number) for number in thing] == [int, int])

    def test_rooms_from_which_no_end_is_reached(self):
        for row in near_paper(FONT, ODD, [1, 2, 3, 4, 5, 6, 7, 0]):
            self.assertEqual(row[3:6], [None, None, None])
        for row in near_paper(FONT, make_house([[("a", 0)]], []), [1, 1, 1]):
            self.assertEqual(row, [None])

    def test_letters_with_the_same_columns_are_texts_of_their_own(self):
        self.assertEqual(near_paper(FONT, free("aA"), [1, 1, 5]), [[(1, 8)], [(1, 4)], [(1, 2)], [(0, 1)]])

    def test_a_letter_of_eight_columns(self):
        strip = [1, 2, 3, 4, 5, 6, 7, 9]
        self.assertEqual(near_paper(ONE_WIDE, free("w"), strip), [[(1, 1)]] + [[None]] * 7 + [[(0, 1)]])

    def test_four_hundred_columns_each_by_itself(self):
        strip = drawn_strip(Draw(1), NARROW, 400)
        paper = near_paper(NARROW, free("abcB"), strip)
        self.assertEqual(len(paper), 401)
        far, many = 0, 1
        for x in range(399, -1, -1):
            gaps = [bin(column ^ strip[x]).count("1") for column in (0, 1, 1, 3)]
            far, many = far + min(gaps), many * gaps.count(min(gaps))
            self.assertEqual(paper[x], [(far, many)])
        self.assertGreater(many, 2 ** 50)

    def test_four_hundred_columns_by_letters_of_several_widths(self):
        # Blank letters of one and of two columns: each picture is blank, and they are counted like rabbits.
        font = make_font(5, [("a", [0]), ("b", [0, 0])])
        strip = drawn_strip(Draw(2), font, 400)
        paper = near_paper(font, free("ab"), strip)
        dots, one, other = 0, 1, 0
        for x in range(399, -1, -1):
            dots, one, other = dots + bin(strip[x]).count("1"), one + other, one
            self.assertEqual(paper[x], [(dots, one)])

    def test_as_many_texts_as_there_can_be(self):
        signs = "ABCDEFGHIJKLMNOPQRSTUVWXYZabcdefghijklmn"
        font = make_font(60, [(sign, [0]) for sign in signs])
        paper = near_paper(font, free(signs), [2 ** 60 - 1] * 400)
        self.assertEqual(paper[0], [(24000, 40 ** 400)])
        paper = near_paper(font, sums(signs, 40), [0] * 400)
        self.assertEqual(paper[0], [(0, 40 ** 399)] * 40)

    def test_doors_whose_signs_the_font_lacks_are_never_gone_through(self):
        lacking = make_house([[("q", 1), ("a", 0)], [("a", 1)]], [1])
        self.assertEqual(near_paper(NARROW, lacking, [0, 0]), [[None, (0, 1)]] * 2 + [[None, (0, 1)]])
        for font, house, strip in cases():
            fewer = fewer_doors(font, house)
            self.assertEqual(near_paper(font, house, strip), near_paper(font, fewer, strip))

    def test_each_row_is_a_list_of_its_own(self):
        for house, strip in ((free("ab"), [1, 1, 1]), (book([]), [0] * 5), (ODD, []), (ODD, [1, 2, 3])):
            paper, again = near_paper(FONT, house, strip), near_paper(FONT, house, strip)
            rows = [id(row) for row in paper + again]
            self.assertEqual(len(rows), len(set(rows)))
            wanted = copy.deepcopy(again)
            paper[0][0] = (99, 99)
            paper[-1].append(None)
            self.assertEqual(paper[1:-1], wanted[1:-1])
            paper.clear()
            self.assertEqual(again, wanted)
            self.assertEqual(near_paper(FONT, house, strip), wanted)

    def test_what_is_handed_in_stays_and_is_not_kept(self):
        for ask in (near_paper, nearest):
            for house in HOUSES:
                strip = [5, 2, 1]
                before = copy.deepcopy((FONT, house))
                told = ask(FONT, house, strip)
                self.assertEqual(strip, [5, 2, 1])
                self.assertEqual((FONT, house), before)
                wanted = copy.deepcopy(told)
                strip[0] = 0
                strip.append(7)
                self.assertEqual(told, wanted)
                self.assertEqual(ask(FONT, house, [5, 2, 1]), wanted)


class NearestTest(unittest.TestCase):
    def test_one_by_hand(self):
        self.assertEqual(nearest(NARROW, BY_HAND, [3, 3, 1]), ("BBB", 2, 10))

    def test_by_writing_all_texts_down(self):
        for font, house, strip in cases():
            self.assertEqual(nearest(font, house, strip), nearest_by_writing(font, house, strip), (house, strip))

    def test_it_is_a_tuple(self):
        told = nearest(FONT, free("ab"), [1, 6])
        self.assertIs(type(told), tuple)
        self.assertEqual([type(part) for part in told], [str, int, int])

    def test_a_texts_own_picture(self):
        for text in ("b", "bib", "fig", "jig", "bebeg", "ij" * 15):
            self.assertEqual(nearest(FONT, book([text, "b"]), set_text(FONT, text)), (text, 0, 1))
        for text in ("a", "jihgfedcba", "abcdefghij" * 20, "j" * 200):
            self.assertEqual(nearest(LARGE, free("abcdefghij"), set_text(LARGE, text)), (text, 0, 1))

    def test_a_picture_with_dots_turned_over(self):
        font = make_font(5, [("a", [31, 0]), ("b", [0, 31]), ("c", [31, 31])])
        house = book(["abc", "cba", "bbb"])
        picture = set_text(font, "abc")
        self.assertEqual(nearest(font, house, turned(5, picture, [(0, 0)])), ("abc", 1, 1))
        self.assertEqual(nearest(font, house, turned(5, picture, [(0, 0), (5, 4), (3, 2)])), ("abc", 3, 1))
        self.assertEqual(nearest(font, house, set_text(font, "cbb")), ("bbb", 5, 1))

    def test_a_wide_picture_with_many_dots_turned_over(self):
        font = make_font(60, [("a", [0] * 4), ("b", [2 ** 60 - 1] * 4)])
        text = "abbabaab" * 12 + "aabb"
        draw = Draw(9)
        spots = [(x, draw.below(60)) for x in range(400)]
        spoilt = turned(60, set_text(font, text), spots)
        self.assertEqual(nearest(font, free("ab"), spoilt), (text, 400, 1))

    def test_several_as_near_the_first_in_the_order_of_texts(self):
        self.assertEqual(nearest(FONT, free("aAb"), [1, 6]), ("Ab", 0, 2))
        self.assertEqual(nearest(FONT, free("cd"), [5, 2, 5, 2]), ("cc", 0, 4))
        self.assertEqual(nearest(FONT, book(["dd", "dc"]), [5, 2, 5, 2]), ("dc", 0, 2))
        self.assertEqual(nearest(NARROW, free("ac"), [1] * 400), ("a" * 400, 400, 2 ** 400))
        # Letters of unlike widths: "ba" and "c" have the same picture.
        font = make_font(2, [("a", [1]), ("b", [2]), ("c", [2, 1]), ("A", [3])])
        self.assertEqual(nearest(font, free("abc"), [2, 1, 2, 1]), ("baba", 0, 4))
        self.assertEqual(nearest(font, book(["ca", "bab"]), [2, 1, 0]), ("bab", 1, 2))

    def test_nearer_ahead_of_the_first_in_the_order(self):
        self.assertEqual(nearest(FONT, book(["aa", "bb", "ba"]), [6, 6]), ("bb", 0, 1))
        # The letter that is nearest by itself leads nowhere near.
        house = book(["aj", "ba"])
        self.assertEqual(nearest(FONT, house, [1, 1]), ("ba", 3, 1))

    def test_a_width_that_no_allowed_text_has(self):
        for wide in range(1, 8):
            self.assertIsNone(nearest(ONE_WIDE, free("w"), [0] * wide))
        self.assertIsNone(nearest(FONT, book(["ab", "cab"]), [1]))
        self.assertIsNone(nearest(FONT, book(["ab", "cab"]), [1] * 3))
        self.assertIsNone(nearest(FONT, book(["ab", "cab"]), [1] * 400))
        self.assertIsNone(nearest(FONT, book([]), [1]))
        self.assertIsNone(nearest(FONT, make_house([[("a", 0)]], []), [1]))
        self.assertIsNone(nearest(FONT, sums("c", 3), [5, 2, 5, 2]))

    def test_the_strip_without_columns(self):
        self.assertEqual(nearest(FONT, free("ab"), []), ("", 0, 1))
        self.assertEqual(nearest(FONT, book(["", "a"]), []), ("", 0, 1))
        self.assertIsNone(nearest(FONT, book(["a"]), []))
        self.assertIsNone(nearest(FONT, book([]), []))

    def test_doors_whose_signs_the_font_lacks_are_never_gone_through(self):
        self.assertIsNone(nearest(NARROW, free("qz"), [0]))
        self.assertEqual(nearest(NARROW, free("qz"), []), ("", 0, 1))
        self.assertIsNone(nearest(NARROW, book(["qa", "aq"]), [0, 0]))
        self.assertEqual(nearest(NARROW, book(["qa", "aq", "cc"]), [0, 0]), ("cc", 4, 1))
        for font, house, strip in cases():
            fewer = fewer_doors(font, house)
            self.assertEqual(nearest(font, house, strip), nearest(font, fewer, strip))

    def test_the_text_is_allowed_and_lies_as_far_as_told(self):
        draw = Draw(23)
        for font in FONTS:
            for house in HOUSES:
                for wide in (8, 24, 100, 400):
                    strip = drawn_strip(draw, font, wide)
                    told = nearest(font, house, strip)
                    if told is not None:
                        self.assertIs(takes(house, told[0]), True)
                        self.assertEqual(gap(set_text(font, told[0]), strip), told[1])
                        self.assertEqual(near_paper(font, house, strip)[0][0], told[1:])


if __name__ == "__main__":
    unittest.main()
