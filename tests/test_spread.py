import copy
import unittest

from blotsure.fonts import make_font
from blotsure.houses import make_house
from blotsure.makers import book, free, sums
from blotsure.near import nearest
from blotsure.spread import counted, spread
from blotsure.within import within
from helpers import VERY_FAR, Draw
from near_cases import (
    FONT, FONTS, HOUSES, NARROW, ODD, ONE_WIDE, cases, drawn_strip, fewer_doors, gaps_by_writing, leads_to_end,
    texts_as_wide,
)

SIGNS = "ABCDEFGHIJKLMNOPQRSTUVWXYZabcdefghijklmn"


def spread_by_writing(font, house, strip):
    gaps = [far for far, _ in gaps_by_writing(font, house, 0, strip)]
    return [gaps.count(far) for far in range(max(gaps, default=-1) + 1)]


def times(one, other):
    """The product of two rows of numbers, as if each were the numbers ahead of powers."""
    product = [0] * (len(one) + len(other) - 1)
    for place, number in enumerate(one):
        for beside, factor in enumerate(other):
            product[place + beside] += number * factor
    return product


class SpreadTest(unittest.TestCase):
    def test_some_by_hand(self):
        # Of NARROW, a is [0], b and B are [1], c is [3].
        self.assertEqual(spread(NARROW, free("abcB"), [1]), [2, 2])
        self.assertEqual(spread(NARROW, free("abcB"), [0]), [1, 2, 1])
        self.assertEqual(spread(NARROW, free("abcB"), [2]), [0, 2, 2])
        self.assertEqual(spread(NARROW, free("abcB"), [0, 1]), [2, 6, 6, 2])
        self.assertEqual(spread(FONT, book(["ab", "c", "ba"]), [5, 6]), [0, 2, 0, 0, 0, 1])

    def test_by_writing_all_texts_down(self):
        for font, house, strip in cases():
            self.assertEqual(spread(font, house, strip), spread_by_writing(font, house, strip), (house, strip))

    def test_letters_with_the_same_columns_are_texts_of_their_own(self):
        self.assertEqual(spread(FONT, free("aA"), [1, 1, 5]), [0, 8])
        self.assertEqual(spread(FONT, free("cd"), [5, 2, 5, 2]), [4])
        self.assertEqual(spread(FONT, book(["a", "A"]), [6]), [0, 0, 0, 2])

    def test_noughts_between_and_the_greatest_gap_at_the_end(self):
        font = make_font(5, [("a", [0, 0]), ("b", [31, 31]), ("c", [1, 0])])
        self.assertEqual(spread(font, free("abc"), [0, 0]), [1, 1] + [0] * 8 + [1])
        self.assertEqual(spread(font, free("ab"), [0] * 4), [1] + [0] * 9 + [2] + [0] * 9 + [1])
        self.assertEqual(spread(font, book(["b"]), [0, 0]), [0] * 10 + [1])
        for one, house, strip in cases():
            told = spread(one, house, strip)
            self.assertTrue(told == [] or told[-1] > 0)

    def test_empty_where_there_are_none(self):
        for wide in range(1, 8):
            self.assertEqual(spread(ONE_WIDE, free("w"), [0] * wide), [])
        self.assertEqual(spread(FONT, book(["ab", "cab"]), [1] * 3), [])
        self.assertEqual(spread(FONT, book(["ab", "cab"]), [1] * 400), [])
        self.assertEqual(spread(FONT, book([]), [1]), [])
        self.assertEqual(spread(FONT, make_house([[("a", 0)]], []), [1]), [])

    def test_of_the_strip_without_columns(self):
        self.assertEqual(spread(FONT, free("ab"), []), [1])
        self.assertEqual(spread(FONT, book(["", "a"]), []), [1])
        self.assertEqual(spread(FONT, book(["a"]), []), [])
        self.assertEqual(spread(FONT, book([]), []), [])
        self.assertEqual(spread(FONT, ODD, []), [])

    def test_a_letter_of_eight_columns(self):
        self.assertEqual(spread(ONE_WIDE, free("w"), [1, 2, 3, 4, 5, 6, 7, 9]), [0, 1])
        self.assertEqual(spread(ONE_WIDE, free("w"), [1, 2, 3, 4, 5, 6, 7, 8] * 50), [1])

    def test_four_hundred_columns_each_by_itself(self):
        strip = drawn_strip(Draw(1), NARROW, 400)
        wanted = [1]
        for column in strip:
            gaps = [bin(column ^ letter).count("1") for letter in (0, 1, 1, 3)]
            wanted = times(wanted, [gaps.count(far) for far in range(max(gaps) + 1)])
        self.assertEqual(spread(NARROW, free("abcB"), strip), wanted)
        self.assertEqual(sum(wanted), 4 ** 400)

    def test_four_hundred_columns_by_letters_of_several_widths(self):
        # Blank letters of one and of two columns: each picture is blank, and they are counted like rabbits.
        font = make_font(5, [("a", [0]), ("b", [0, 0])])
        strip = drawn_strip(Draw(2), font, 400)
        one, other = 1, 0
        for _ in range(400):
            one, other = one + other, one
        dots = sum(bin(column).count("1") for column in strip)
        self.assertEqual(spread(font, free("ab"), strip), [0] * dots + [one])

    def test_as_many_texts_as_there_can_be(self):
        font = make_font(60, [(sign, [0]) for sign in SIGNS])
        self.assertEqual(spread(font, free(SIGNS), [2 ** 60 - 1] * 400), [0] * 24000 + [40 ** 400])

    def test_it_tells_what_the_nearest_text_and_the_texts_within_tell(self):
        draw = Draw(29)
        for house in HOUSES:
            for wide in (8, 24, 60):
                strip = drawn_strip(draw, FONT, wide)
                told = spread(FONT, house, strip)
                least = nearest(FONT, house, strip)
                self.assertEqual(sum(told), counted(FONT, house, wide))
                if least is None:
                    self.assertEqual(told, [])
                else:
                    self.assertEqual(told[:least[1] + 1], [0] * least[1] + [least[2]])
                    for far in (least[1] + 1, least[1] + 2, len(told)):
                        found = within(FONT, house, strip, far, 400)
                        self.assertEqual(len(found), min(400, sum(told[:far + 1])))

    def test_doors_whose_signs_the_font_lacks_are_never_gone_through(self):
        self.assertEqual(spread(NARROW, free("qz"), [0]), [])
        self.assertEqual(spread(NARROW, free("qz"), []), [1])
        self.assertEqual(spread(NARROW, book(["qa", "aq", "cc"]), [0, 0]), [0, 0, 0, 0, 1])
        for font, house, strip in cases():
            fewer = fewer_doors(font, house)
            self.assertEqual(spread(font, house, strip), spread(font, fewer, strip))

    def test_it_is_a_list_of_whole_numbers_and_the_askers_own(self):
        for house, strip in ((free("abcB"), [0, 1]), (book([]), []), (free(""), []), (book(["q"]), [0])):
            told, again = spread(NARROW, house, strip), spread(NARROW, house, strip)
            self.assertIs(type(told), list)
            self.assertTrue({type(number) for number in told} <= {int})
            wanted = list(again)
            told.append(7)
            self.assertEqual(again, wanted)
            self.assertEqual(spread(NARROW, house, strip), wanted)

    def test_what_is_handed_in_stays_and_is_not_kept(self):
        for house in HOUSES:
            strip = [5, 2, 1]
            before = copy.deepcopy((FONT, house))
            told = spread(FONT, house, strip)
            self.assertEqual(strip, [5, 2, 1])
            self.assertEqual((FONT, house), before)
            wanted = list(told)
            strip.append(7)
            self.assertEqual(told, wanted)
            self.assertEqual(spread(FONT, house, [5, 2, 1]), wanted)


class CountedTest(unittest.TestCase):
    def test_of_width_nought(self):
        self.assertEqual(counted(FONT, free("ab"), 0), 1)
        self.assertEqual(counted(FONT, book(["", "a"]), 0), 1)
        self.assertEqual(counted(FONT, book(["a"]), 0), 0)
        self.assertEqual(counted(FONT, book([]), 0), 0)
        self.assertEqual(counted(FONT, ODD, 0), 0)

    def test_by_writing_all_texts_down(self):
        for font in FONTS:
            for wide in range(7):
                texts = [text for text, _ in texts_as_wide(font, wide)]
                for house in HOUSES:
                    wanted = sum(1 for text in texts if leads_to_end(house, 0, text))
                    told = counted(font, house, wide)
                    self.assertEqual(told, wanted, (house, wide))
                    self.assertIs(type(told), int)

    def test_of_letters_of_eight_columns(self):
        for wide in range(401):
            self.assertEqual(counted(ONE_WIDE, free("w"), wide), 1 if wide in range(0, 401, 8) else 0)

    def test_of_four_hundred_columns(self):
        self.assertEqual(counted(NARROW, free("abcB"), 400), 4 ** 400)
        font = make_font(1, [(sign, [0]) for sign in SIGNS])
        self.assertEqual(counted(font, free(SIGNS), 400), 40 ** 400)
        self.assertEqual(counted(font, sums(SIGNS, 40), 400), 40 ** 399)
        self.assertEqual(counted(FONT, book(["ab", "cab"]), 400), 0)
        rabbits = make_font(1, [("a", [0]), ("b", [0, 0])])
        one, other = 1, 0
        for wide in range(401):
            self.assertEqual(counted(rabbits, free("ab"), wide), one)
            one, other = one + other, one
        threes = make_font(1, [("a", [0]), ("b", [1] * 3), ("c", [1] * 8)])
        row = [1]
        for wide in range(1, 401):
            row.append(sum(row[wide - step] for step in (1, 3, 8) if step <= wide))
        self.assertEqual([counted(threes, free("abc"), wide) for wide in (7, 8, 9, 399, 400)],
                         [row[wide] for wide in (7, 8, 9, 399, 400)])

    def test_doors_whose_signs_the_font_lacks_are_never_gone_through(self):
        self.assertEqual(counted(NARROW, free("qz"), 0), 1)
        self.assertEqual(counted(NARROW, free("qz"), 1), 0)
        self.assertEqual(counted(NARROW, free("aqz"), 400), 1)
        self.assertEqual(counted(NARROW, book(["qa", "aq", "cc"]), 2), 1)
        for font in FONTS:
            for house in HOUSES:
                fewer = fewer_doors(font, house)
                for wide in (0, 1, 5, 8, 60):
                    self.assertEqual(counted(font, house, wide), counted(font, fewer, wide))

    def test_it_is_the_sum_of_the_spread_and_counts_the_texts_within(self):
        for font, house, strip in cases():
            many = counted(font, house, len(strip))
            self.assertEqual(sum(spread(font, house, strip)), many)
            self.assertEqual(len(within(font, house, strip, VERY_FAR, 400)), min(400, many))

    def test_what_is_handed_in_stays(self):
        for house in HOUSES:
            before = copy.deepcopy((FONT, house))
            counted(FONT, house, 9)
            self.assertEqual((FONT, house), before)


if __name__ == "__main__":
    unittest.main()
