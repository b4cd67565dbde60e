import copy
import itertools
import unittest

from blotsure.far import mends
from blotsure.fonts import make_font
from blotsure.houses import make_house
from blotsure.makers import book, free, padded, sums
from blotsure.near import nearest
from blotsure.pages import broken, page, page_mends, read_page
from blotsure.setting import breadth, set_text
from blotsure.strips import turned
from helpers import NO_SIGNS, Draw, assert_refused

# The blank has one column, and so have the fillers - and _; m is the widest.
FONT = make_font(3, [
    ("a", [7, 5]), ("b", [2]), ("m", [7, 1, 7, 1, 7]), (" ", [0]), ("-", [0]), ("_", [4]), ("w", [1, 2]),
])
PLAIN = make_font(2, [("a", [3, 3]), ("b", [1]), ("-", [0])])
APART = make_font(5, [("a", [31, 0, 31]), ("b", [0, 31, 0]), ("-", [0])])
FORTY_ROOMS = make_house([[("a", 0)]] + [[] for _ in range(39)], [0])


def broken_by_trying(font, text, wide):
    """Of all ways to part the words into rows that fit, the one that fills the rows from the first one on."""
    words = text.split(" ")
    best = None
    for cuts in itertools.product((True, False), repeat=len(words) - 1):
        rows = [words[0]]
        for cut, word in zip(cuts, words[1:]):
            if cut:
                rows.append(word)
            else:
                rows[-1] += " " + word
        if all(breadth(font, row) <= wide for row in rows):
            sizes = [row.count(" ") for row in rows]
            if best is None or sizes > best[0]:
                best = (sizes, rows)
    return best[1]


class BrokenTest(unittest.TestCase):
    def test_the_text_without_signs(self):
        for wide in (0, 1, 400):
            self.assertEqual(broken(FONT, "", wide), [])
        self.assertEqual(broken(PLAIN, "", 0), [])

    def test_one_word(self):
        self.assertEqual(broken(FONT, "ab", 3), ["ab"])
        self.assertEqual(broken(FONT, "ab", 400), ["ab"])
        # A font without the blank will do where no blank is in the text.
        self.assertEqual(broken(PLAIN, "aab", 5), ["aab"])

    def test_words_that_just_fit_and_are_wider_by_one(self):
        # 3 columns, a blank, 3 columns.
        self.assertEqual(broken(FONT, "ab ba", 7), ["ab ba"])
        self.assertEqual(broken(FONT, "ab ba", 6), ["ab", "ba"])
        self.assertEqual(broken(FONT, "ab ba", 3), ["ab", "ba"])
        self.assertEqual(broken(FONT, "b b b", 5), ["b b b"])
        self.assertEqual(broken(FONT, "b b b", 4), ["b b", "b"])
        self.assertEqual(broken(FONT, "b b b", 3), ["b b", "b"])
        self.assertEqual(broken(FONT, "b b b", 2), ["b", "b", "b"])
        self.assertEqual(broken(FONT, "b b b", 1), ["b", "b", "b"])

    def test_a_blank_of_several_columns(self):
        font = make_font(1, [("a", [1]), (" ", [0, 0, 0])])
        self.assertEqual(broken(font, "a a a", 9), ["a a a"])
        self.assertEqual(broken(font, "a a a", 8), ["a a", "a"])
        self.assertEqual(broken(font, "a a a", 5), ["a a", "a"])
        self.assertEqual(broken(font, "a a a", 4), ["a", "a", "a"])

    def test_each_row_with_as_many_words_as_it_can_take(self):
        self.assertEqual(broken(FONT, "m b m b", 7), ["m b", "m b"])
        self.assertEqual(broken(FONT, "b m b m", 7), ["b m", "b m"])
        self.assertEqual(broken(FONT, "b b m b", 7), ["b b", "m b"])
        self.assertEqual(broken(FONT, "m m b b b b", 5), ["m", "m", "b b b", "b"])

    def test_by_trying_all_ways(self):
        draw = Draw(71)
        for _ in range(150):
            words = ["".join(draw.one_of("abw-") for _ in range(1 + draw.below(3))) for _ in range(1 + draw.below(7))]
            text = " ".join(words)
            widest = max(breadth(FONT, word) for word in words)
            for wide in range(widest, widest + 9):
                self.assertEqual(broken(FONT, text, wide), broken_by_trying(FONT, text, wide), (text, wide))

    def test_rows_together_are_the_text(self):
        text = " ".join(["ab", "m", "b", "wawa", "-"] * 20)
        for wide in (8, 9, 20, 57, 399, 400):
            rows = broken(FONT, text, wide)
            self.assertEqual(" ".join(rows), text)
            for row in rows:
                self.assertLessEqual(breadth(FONT, row), wide)

    def test_a_text_of_four_hundred_signs(self):
        self.assertEqual(broken(FONT, "b " * 199 + "bb", 400), ["b " * 199 + "bb"])
        self.assertEqual(broken(FONT, "b " * 199 + "bb", 399), ["b " * 198 + "b", "bb"])
        self.assertEqual(broken(FONT, "b" * 400, 400), ["b" * 400])

    def test_a_sign_that_the_font_lacks_goes_ahead_of_all_else(self):
        for text in ("q", "aq", "a q", " q", "q ", "  q", "mmmm q", "a  q", "a\nb", "a\tb", "%"):
            for wide in (0, 1, 400):
                assert_refused(self, "NoSign", broken, FONT, text, wide)

    def test_a_font_without_the_blank(self):
        for text in ("a b", " ", "a ", " a", "a  b", "aaaa b"):
            for wide in (0, 1, 400):
                assert_refused(self, "NoSign", broken, PLAIN, text, wide)

    def test_blanks_that_part_no_words(self):
        for text in (" ", "  ", " a", "a ", "a  b", " a b", "a b ", "a   b", "  a", "mmmm ", " mmmm", "m  m"):
            for wide in (0, 1, 400):
                assert_refused(self, "NoWords", broken, FONT, text, wide)

    def test_a_word_that_is_wider_than_told(self):
        for text, wide in (("m", 4), ("b", 0), ("a", 1), ("b m b", 4), ("b b a", 1), ("mm", 9), ("b" * 400, 399)):
            assert_refused(self, "TooWide", broken, FONT, text, wide)
            self.assertEqual(" ".join(broken(FONT, text, wide + 1)), text)

    def test_width_nought(self):
        self.assertEqual(broken(FONT, "", 0), [])
        assert_refused(self, "TooWide", broken, FONT, "b", 0)
        assert_refused(self, "TooWide", broken, FONT, "b b", 0)
        assert_refused(self, "NoWords", broken, FONT, " ", 0)
        assert_refused(self, "NoSign", broken, FONT, "q", 0)

    def test_the_rows_are_the_askers_own(self):
        told, again = broken(FONT, "b b", 1), broken(FONT, "b b", 1)
        self.assertIs(type(told), list)
        self.assertEqual([type(row) for row in told], [str, str])
        told.append("m")
        self.assertEqual(again, ["b", "b"])
        empty = broken(FONT, "", 1)
        empty.append("m")
        self.assertEqual(broken(FONT, "", 1), [])


class PageTest(unittest.TestCase):
    def test_no_rows(self):
        for wide in (0, 7, 400):
            self.assertEqual(page(FONT, free("ab"), "-", [], wide), [])

    def test_rows_that_are_filled_up(self):
        self.assertEqual(page(FONT, free("ab"), "-", ["ab"], 5), [[7, 5, 2, 0, 0]])
        self.assertEqual(page(FONT, free("ab"), "_", ["ab", "b"], 4), [[7, 5, 2, 4], [2, 4, 4, 4]])
        self.assertEqual(page(FONT, free("ab"), "_", ["b"], 400), [[2] + [4] * 399])
        self.assertEqual(page(FONT, free("ab"), " ", ["b"], 3), [[2, 0, 0]])

    def test_rows_that_just_fill_the_width(self):
        self.assertEqual(page(FONT, free("ab"), "-", ["ab", "bbb"], 3), [[7, 5, 2], [2, 2, 2]])
        self.assertEqual(page(FONT, free("b"), "-", ["b" * 400], 400), [[2] * 400])

    def test_the_text_without_signs(self):
        self.assertEqual(page(FONT, free("ab"), "_", ["", "b", ""], 2), [[4, 4], [2, 4], [4, 4]])
        self.assertEqual(page(FONT, book(["", "a"]), "_", [""], 0), [[]])
        self.assertEqual(page(FONT, free(""), "_", ["", ""], 0), [[], []])
        assert_refused(self, "NotTaken", page, FONT, book(["a"]), "_", [""], 9)

    def test_each_strip_is_the_rows_picture_and_fillers(self):
        draw = Draw(73)
        house = sums("abmw ", 2)
        rows = []
        while len(rows) < 60:
            row = "".join(draw.one_of("abmw ") for _ in range(draw.below(12)))
            if sum("abmw ".index(sign) + 1 for sign in row) % 2 == 0:
                rows.append(row)
        told = page(FONT, house, "_", rows, 60)
        for row, strip in zip(rows, told):
            self.assertEqual(strip, set_text(FONT, row) + [4] * (60 - breadth(FONT, row)))
            self.assertEqual(strip, set_text(FONT, row + "_" * (60 - breadth(FONT, row))))

    def test_a_filler_that_is_no_sign_of_the_font(self):
        for filler in NO_SIGNS + ("q", "A", "~", "."):
            assert_refused(self, "NoFiller", page, FONT, free("ab"), filler, ["ab"], 9)
            assert_refused(self, "NoFiller", read_page, FONT, free("ab"), filler, [[0]])
            assert_refused(self, "NoFiller", page_mends, FONT, free("ab"), filler)

    def test_a_filler_with_several_columns(self):
        for filler in ("a", "w", "m"):
            assert_refused(self, "NoFiller", page, FONT, free("b"), filler, [], 9)
            assert_refused(self, "NoFiller", read_page, FONT, free("b"), filler, [])
            assert_refused(self, "NoFiller", page_mends, FONT, free("b"), filler)

    def test_a_filler_on_a_door(self):
        behind = make_house([[("a", 0)], [("-", 0)]], [0])
        for house in (free("ab-"), free("-"), behind, book(["a-", "b"])):
            assert_refused(self, "NoFiller", page, FONT, house, "-", [], 9)
            assert_refused(self, "NoFiller", read_page, FONT, house, "-", [])
            assert_refused(self, "NoFiller", page_mends, FONT, house, "-")
            self.assertEqual(page(FONT, house, "_", [], 9), [])

    def test_a_house_with_forty_rooms(self):
        assert_refused(self, "NoFiller", page, FONT, FORTY_ROOMS, "-", [], 9)
        assert_refused(self, "NoFiller", read_page, FONT, FORTY_ROOMS, "-", [])
        assert_refused(self, "NoFiller", page_mends, FONT, FORTY_ROOMS, "-")
        fewer = make_house([[("a", 0)]] + [[] for _ in range(38)], [0])
        self.assertEqual(page(FONT, fewer, "-", ["a"], 3), [[7, 5, 0]])

    def test_the_filler_goes_ahead_of_all_else(self):
        for rows in (["q"], ["m"], ["ab" * 9], ["ab", "q"], [""]):
            assert_refused(self, "NoFiller", page, FONT, book(["ab"]), "q", rows, 3)
            assert_refused(self, "NoFiller", page, FONT, book(["ab"]), "a", rows, 3)
            assert_refused(self, "NoFiller", page, FONT, FORTY_ROOMS, "-", rows, 3)

    def test_a_sign_that_the_font_lacks(self):
        for row in ("q", "aq", "q" * 9, "mq", "a\n", "\t"):
            assert_refused(self, "NoSign", page, FONT, free("ab"), "-", [row], 3)
        # Where the house takes it, too.
        assert_refused(self, "NoSign", page, FONT, free("abq"), "-", ["abq"], 400)

    def test_a_row_that_the_house_does_not_take(self):
        for row in ("m", "am", "-", "a-", "b-b", "_", "mmmm"):
            assert_refused(self, "NotTaken", page, FONT, free("ab"), "-", [row], 3)
        assert_refused(self, "NotTaken", page, FONT, sums("ab", 3), "-", ["a"], 9)
        assert_refused(self, "NotTaken", page, FONT, book([]), "-", [""], 9)

    def test_a_row_that_is_wider_than_the_page(self):
        for row, wide in (("ab", 2), ("b", 0), ("aa", 3), ("b" * 400, 399), ("a" * 400, 400)):
            assert_refused(self, "TooWide", page, FONT, free("ab"), "-", [row], wide)

    def test_row_by_row_the_first_of_these(self):
        house = free("ab")
        fine, lacks, untaken, wide = "ab", "aq", "m-", "aaa"
        for rows, name in (
            ([fine, lacks, untaken, wide], "NoSign"), ([fine, untaken, lacks, wide], "NotTaken"),
            ([fine, wide, lacks, untaken], "TooWide"), ([wide, untaken, lacks], "TooWide"),
            ([untaken, fine, wide], "NotTaken"), ([lacks, wide], "NoSign"),
            # In one row: the sign ahead of the house, the house ahead of the width.
            (["mmmq"], "NoSign"), (["mmm"], "NotTaken"), (["aaaq"], "NoSign"), (["aaam"], "NotTaken"),
        ):
            assert_refused(self, name, page, FONT, house, "-", rows, 4)

    def test_the_strips_are_the_askers_own(self):
        rows = ["", "b", "b", ""]
        house = free("ab")
        before = copy.deepcopy((FONT, house, rows))
        told, again = page(FONT, house, "_", rows, 2), page(FONT, house, "_", rows, 2)
        self.assertEqual((FONT, house, rows), before)
        strips = [id(strip) for strip in told + again]
        self.assertEqual(len(strips), len(set(strips)))
        wanted = copy.deepcopy(again)
        for strip in told:
            strip.append(7)
        told.append([])
        rows.append("q")
        self.assertEqual(again, wanted)
        self.assertEqual(page(FONT, house, "_", before[2], 2), wanted)


class ReadPageTest(unittest.TestCase):
    def test_of_a_page(self):
        house = book(["ab", "ba", "", "b", "bb"])
        rows = ["ab", "", "ba", "bb", "b", "ab"]
        strips = page(APART, house, "-", rows, 8)
        told = read_page(APART, house, "-", strips)
        self.assertEqual([thing[0] for thing in told], rows)
        self.assertEqual([thing[1] for thing in told], [0] * 6)
        self.assertEqual({thing[2] for thing in told}, {1})

    def test_of_no_strips(self):
        self.assertEqual(read_page(FONT, free("ab"), "-", []), [])

    def test_told_without_the_fillers_at_the_end(self):
        # - is [0], the filler; b is [1], a is [3, 3].
        self.assertEqual(read_page(PLAIN, free("ab"), "-", [[1, 0, 0], [3, 3, 0], [0, 0, 0]]),
                         [("b", 0, 1), ("a", 0, 1), ("", 0, 1)])
        self.assertEqual(read_page(PLAIN, free("ab"), "-", [[]]), [("", 0, 1)])
        self.assertEqual(read_page(PLAIN, free("ab"), "-", [[0] * 400]), [("", 0, 1)])
        # A blank as filler, and a blank as a sign of the row's own with another filler.
        self.assertEqual(read_page(FONT, free("ab"), " ", [[2, 0, 0]]), [("b", 0, 1)])
        self.assertEqual(read_page(FONT, book(["b "]), "_", [[2, 0, 4, 4]]), [("b ", 0, 1)])

    def test_it_is_the_nearest_text_by_the_padded_house(self):
        draw = Draw(79)
        for font, house, filler in (
            (FONT, sums("abw", 2), "-"), (FONT, free("am"), "_"), (PLAIN, book(["ab", "b", "aab"]), "-"),
            (APART, sums("ab", 3), "-"), (FONT, book(["a", "mb"]), " "), (FONT, make_house([[("a", 0)]], []), "-"),
        ):
            strips = [[draw.below(2 ** font[0]) for _ in range(wide)] for wide in (0, 1, 2, 3, 5, 8, 13, 13, 40)]
            for strip, told in zip(strips, read_page(font, house, filler, strips)):
                wanted = nearest(font, padded(house, filler), strip)
                if wanted is None:
                    self.assertIsNone(told)
                else:
                    self.assertIs(type(told), tuple)
                    self.assertEqual(told[1:], wanted[1:])
                    self.assertEqual(told[0], wanted[0].rstrip(filler))
                    self.assertFalse(told[0].endswith(filler))
                    self.assertEqual(told[0] + filler * (len(wanted[0]) - len(told[0])), wanted[0])

    def test_strips_that_no_allowed_text_has_the_width_of(self):
        self.assertEqual(read_page(FONT, book(["ab"]), "-", [[0], [0, 0], [7, 5, 2], [], [7, 5, 2, 0]]),
                         [None, None, ("ab", 0, 1), None, ("ab", 0, 1)])
        self.assertEqual(read_page(FONT, book([]), "-", [[], [0]]), [None, None])
        self.assertEqual(read_page(FONT, make_house([[("a", 0)]], []), "-", [[7, 5]]), [None])

    def test_what_several_texts_have(self):
        # The blank is as blank as the filler: several padded texts have the same picture.
        told = read_page(FONT, free("b "), "-", [[2, 0, 0]])
        self.assertEqual(told, [("b  ", 0, 3)])

    def test_a_page_with_no_more_turned_dots_than_told(self):
        house = book(["ab", "ba", "b", "bbb", ""])
        told = page_mends(APART, house, "-")
        self.assertEqual(told, 2)
        rows = ["ab", "ba", "b", "bbb", ""]
        draw = Draw(83)
        strips = page(APART, house, "-", rows, 9)
        spots = [(x, y) for x in range(9) for y in range(5)]
        for many in range(told + 1):
            for _ in range(40):
                spoilt = [turned(5, strip, draw.shuffled(spots)[:many]) for strip in strips]
                wanted = [(row, many, 1) for row in rows]
                self.assertEqual(read_page(APART, house, "-", spoilt), wanted)

    def test_each_choice_of_turned_dots(self):
        house = book(["a", "b"])
        font = make_font(3, [("a", [7, 0]), ("b", [0, 7]), ("-", [0])])
        told = page_mends(font, house, "-")
        self.assertEqual(told, 2)
        spots = [(x, y) for x in range(4) for y in range(3)]
        for row in ("a", "b"):
            strip = page(font, house, "-", [row], 4)[0]
            for many in range(told + 1):
                for chosen in itertools.combinations(spots, many):
                    spoilt = turned(3, strip, list(chosen))
                    self.assertEqual(read_page(font, house, "-", [spoilt]), [(row, many, 1)])

    def test_however_many_where_mends_is_none(self):
        house = book(["ab"])
        self.assertIsNone(page_mends(APART, house, "-"))
        draw = Draw(89)
        strip = page(APART, house, "-", ["ab"], 8)[0]
        for _ in range(50):
            spoilt = [draw.below(32) for _ in strip]
            self.assertEqual(read_page(APART, house, "-", [spoilt])[0][0], "ab")
            self.assertEqual(read_page(APART, house, "-", [spoilt])[0][2], 1)

    def test_what_is_handed_in_stays_and_what_is_told_is_the_askers_own(self):
        house = free("ab")
        strips = [[2, 4], [2, 4], []]
        before = copy.deepcopy((FONT, house, strips))
        told, again = read_page(FONT, house, "_", strips), read_page(FONT, house, "_", strips)
        self.assertEqual((FONT, house, strips), before)
        self.assertIs(type(told), list)
        wanted = list(again)
        told.append(None)
        strips[0].append(4)
        self.assertEqual(again, wanted)
        self.assertEqual(read_page(FONT, house, "_", before[2]), wanted)


class PageMendsTest(unittest.TestCase):
    def test_it_is_mends_of_the_padded_house(self):
        for font, house, filler in (
            (FONT, free("abm"), "-"), (FONT, sums("abw", 2), "_"), (PLAIN, book(["ab", "b"]), "-"),
            (APART, book(["ab", "ba"]), "-"), (APART, sums("ab", 3), "-"), (FONT, book([]), "-"),
            (FONT, book(["ab"]), "-"), (FONT, free("b "), "-"),
        ):
            self.assertEqual(page_mends(font, house, filler), mends(font, padded(house, filler)))

    def test_some_by_hand(self):
        # Padded, b--- and bb are of one width, and unlike in 5 dots.
        self.assertEqual(page_mends(APART, book(["b", "bb"]), "-"), 2)
        self.assertEqual(page_mends(FONT, free("b "), "-"), -1)
        self.assertIsNone(page_mends(APART, book(["ab"]), "-"))
        self.assertIsNone(page_mends(APART, book([]), "-"))

    def test_what_is_handed_in_stays(self):
        before = copy.deepcopy(FONT)
        house = free("abm")
        page_mends(FONT, house, "-")
        self.assertEqual((FONT, house), (before, free("abm")))


if __name__ == "__main__":
    unittest.main()
