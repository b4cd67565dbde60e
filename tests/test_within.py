import copy
import unittest

from blotsure.fonts import make_font
from blotsure.houses import make_house, takes
from blotsure.makers import book, free, sums
from blotsure.near import nearest
from blotsure.setting import set_text
from blotsure.strips import gap
from blotsure.within import within
from helpers import VERY_FAR, Draw
from near_cases import FONT, HOUSES, NARROW, ODD, ONE_WIDE, cases, drawn_strip, fewer_doors, gaps_by_writing

SIGNS = "ABCDEFGHIJKLMNOPQRSTUVWXYZabcdefghijklmn"


def within_by_writing(font, house, strip, far):
    return sorted(text for other, text in gaps_by_writing(font, house, 0, strip) if other <= far)


class WithinTest(unittest.TestCase):
    def test_some_by_hand(self):
        # Of NARROW, a is [0], b and B are [1], c is [3].
        house = free("abcB")
        self.assertEqual(within(NARROW, house, [1], 0, 400), ["B", "b"])
        self.assertEqual(within(NARROW, house, [1], 1, 400), ["B", "a", "b", "c"])
        self.assertEqual(within(NARROW, house, [0], 1, 400), ["B", "a", "b"])
        self.assertEqual(within(NARROW, house, [3, 0], 1, 400), ["Ba", "ba", "cB", "ca", "cb"])
        self.assertEqual(within(FONT, book(["ab", "c", "ba", "bb"]), [5, 6], 1, 400), ["ab", "c"])

    def test_by_writing_all_texts_down(self):
        for font, house, strip in cases():
            gaps = sorted({far for far, _ in gaps_by_writing(font, house, 0, strip)})
            tried = {0, 1, VERY_FAR}
            for far in gaps[:2] + gaps[len(gaps) // 2:][:1] + gaps[-1:]:
                tried |= {far, max(far - 1, 0)}
            for far in sorted(tried):
                wanted = within_by_writing(font, house, strip, far)
                for most in {0, 1, 2, len(wanted) // 2, max(len(wanted) - 1, 0), len(wanted), len(wanted) + 1, 400}:
                    told = within(font, house, strip, far, most)
                    self.assertEqual(told, wanted[:most], (house, strip, far, most))

    def test_far_takes_in_none_some_and_all(self):
        house = sums("abc", 2)
        strip = [6, 1, 5, 2]
        every = within_by_writing(FONT, house, strip, VERY_FAR)
        sizes = [len(within(FONT, house, strip, far, 400)) for far in range(13)]
        self.assertEqual(sizes, sorted(sizes))
        self.assertEqual(sizes[-1], len(every))
        self.assertGreater(len(set(sizes)), 3)
        self.assertEqual(within(FONT, house, strip, VERY_FAR, 400), every)
        self.assertEqual(within(FONT, book(["ab"]), [1, 7], 0, 400), [])
        self.assertEqual(within(FONT, book(["ab"]), [1, 7], 1, 400), ["ab"])

    def test_far_nought_tells_the_texts_with_just_that_picture(self):
        self.assertEqual(within(FONT, free("aAbcd"), [1, 5, 2], 0, 400), ["Ac", "Ad", "ac", "ad"])
        self.assertEqual(within(FONT, free("aAbcd"), [1, 5, 3], 0, 400), [])
        self.assertEqual(within(FONT, free("cd"), [5, 2], 0, 1), ["c"])

    def test_most(self):
        wanted = ["AA", "Aa", "aA", "aa"]
        for most in range(6):
            self.assertEqual(within(FONT, free("aA"), [1, 1], 0, most), wanted[:most])
        self.assertEqual(within(FONT, free("aA"), [1, 1], 0, 400), wanted)
        self.assertEqual(within(FONT, free("aA"), [], 0, 0), [])

    def test_just_four_hundred_and_more(self):
        font = make_font(1, [(sign, [0]) for sign in SIGNS[:20]])
        house = free(SIGNS[:20])
        wanted = [one + other for one in SIGNS[:20] for other in SIGNS[:20]]
        self.assertEqual(within(font, house, [0, 0], 0, 400), wanted)
        self.assertEqual(within(font, house, [0, 0], 0, 399), wanted[:399])
        self.assertEqual(within(font, house, [0, 0, 0], 0, 400), ["A" + text for text in wanted])

    def test_in_the_order_of_texts_and_not_of_gaps_or_doors(self):
        house = make_house([[("c", 0), ("b", 0), ("a", 0), ("B", 0)]], [0])
        self.assertEqual(within(NARROW, house, [3], 2, 400), ["B", "a", "b", "c"])
        self.assertEqual(within(NARROW, house, [3], 2, 2), ["B", "a"])
        # Letters of unlike widths: a text with fewer signs may come first or last.
        font = make_font(2, [("a", [1]), ("b", [2]), ("c", [2, 1]), ("A", [2, 1])])
        self.assertEqual(within(font, free("abcA"), [2, 1], 0, 400), ["A", "ba", "c"])
        self.assertEqual(within(font, free("abcA"), [2, 1, 1], 0, 400), ["Aa", "baa", "ca"])

    def test_of_a_width_that_no_allowed_text_has(self):
        for wide in range(1, 8):
            self.assertEqual(within(ONE_WIDE, free("w"), [0] * wide, VERY_FAR, 400), [])
        self.assertEqual(within(FONT, book(["ab", "cab"]), [1] * 3, VERY_FAR, 400), [])
        self.assertEqual(within(FONT, book(["ab", "cab"]), [1] * 400, VERY_FAR, 400), [])
        self.assertEqual(within(FONT, book([]), [1], VERY_FAR, 400), [])
        self.assertEqual(within(FONT, make_house([[("a", 0)]], []), [1], VERY_FAR, 400), [])

    def test_of_the_strip_without_columns(self):
        self.assertEqual(within(FONT, free("ab"), [], 0, 400), [""])
        self.assertEqual(within(FONT, free("ab"), [], VERY_FAR, 1), [""])
        self.assertEqual(within(FONT, book(["", "a"]), [], 3, 400), [""])
        self.assertEqual(within(FONT, book(["a"]), [], 3, 400), [])
        self.assertEqual(within(FONT, book([]), [], 3, 400), [])
        self.assertEqual(within(FONT, ODD, [], 3, 400), [])

    def test_the_first_ones_of_very_many(self):
        font = make_font(1, [(sign, [0]) for sign in SIGNS])
        told = within(font, free(SIGNS), [0] * 400, 0, 400)
        self.assertEqual(told, ["A" * 398 + one + other for one in SIGNS[:10] for other in SIGNS])
        told = within(font, sums(SIGNS, 40), [1] * 400, 400, 3)
        self.assertEqual(told, ["A" * 400, "A" * 398 + "Bn", "A" * 398 + "Cm"])

    def test_the_first_ones_of_very_many_with_a_gap_that_lets_little(self):
        # 0 or 3: of each column of this strip the one lies 1 off and the other one 1 too.
        self.assertEqual(within(NARROW, free("ac"), [1] * 400, 399, 400), [])
        told = within(NARROW, free("ac"), [1] * 400, 400, 400)
        self.assertEqual(told, ["a" * 391 + format(k, "09b").replace("0", "a").replace("1", "c") for k in range(400)])
        # Just one dot off, at any of 400 places: the sooner the dot, the later the text.
        told = within(NARROW, free("ab"), [0] * 400, 1, 400)
        self.assertEqual(told, ["a" * 400] + ["a" * k + "b" + "a" * (399 - k) for k in range(399, 0, -1)])

    def test_the_first_ones_where_texts_part_early(self):
        # The last rooms let only one way: 400 texts that part in their first signs and go on for long.
        doors = [[(sign, 1) for sign in SIGNS[:20]], [(sign, 2) for sign in SIGNS[:20]], [("A", 2)]]
        font = make_font(1, [(sign, [0]) for sign in SIGNS])
        told = within(font, make_house(doors, [2]), [0] * 400, 0, 400)
        self.assertEqual(told, [one + other + "A" * 398 for one in SIGNS[:20] for other in SIGNS[:20]])

    def test_what_is_told_is_allowed_as_wide_and_within(self):
        draw = Draw(31)
        for house in HOUSES:
            for wide in (8, 24, 100, 400):
                strip = drawn_strip(draw, FONT, wide)
                least = nearest(FONT, house, strip)
                if least is None:
                    self.assertEqual(within(FONT, house, strip, VERY_FAR, 400), [])
                    continue
                self.assertEqual(within(FONT, house, strip, least[1] - 1, 400), [])
                nearest_ones = within(FONT, house, strip, least[1], 400)
                self.assertEqual(len(nearest_ones), min(400, least[2]))
                self.assertEqual(nearest_ones[0], least[0])
                for told in (nearest_ones, within(FONT, house, strip, least[1] + 3, 50)):
                    self.assertEqual(told, sorted(set(told)))
                    for text in told:
                        self.assertIs(takes(house, text), True)
                        self.assertLessEqual(gap(set_text(FONT, text), strip), least[1] + 3)

    def test_doors_whose_signs_the_font_lacks_are_never_gone_through(self):
        self.assertEqual(within(NARROW, free("qz"), [0], VERY_FAR, 400), [])
        self.assertEqual(within(NARROW, free("qz"), [], VERY_FAR, 400), [""])
        self.assertEqual(within(NARROW, book(["qa", "aq", "cc"]), [0, 0], VERY_FAR, 400), ["cc"])
        for font, house, strip in cases():
            fewer = fewer_doors(font, house)
            self.assertEqual(within(font, house, strip, 4, 9), within(font, fewer, strip, 4, 9))

    def test_it_is_a_list_of_texts_and_the_askers_own(self):
        told = within(FONT, free("aA"), [1, 1], 0, 400)
        self.assertIs(type(told), list)
        self.assertEqual({type(text) for text in told}, {str})
        again = within(FONT, free("aA"), [1, 1], 0, 400)
        told.clear()
        self.assertEqual(again, ["AA", "Aa", "aA", "aa"])
        self.assertEqual(within(FONT, free("aA"), [1, 1], 0, 400), again)

    def test_what_is_handed_in_stays_and_is_not_kept(self):
        for house in HOUSES:
            strip = [5, 2, 1]
            before = copy.deepcopy((FONT, house))
            told = within(FONT, house, strip, 5, 400)
            self.assertEqual(strip, [5, 2, 1])
            self.assertEqual((FONT, house), before)
            wanted = list(told)
            strip.append(7)
            self.assertEqual(told, wanted)
            self.assertEqual(within(FONT, house, [5, 2, 1], 5, 400), wanted)


if __name__ == "__main__":
    unittest.main()
