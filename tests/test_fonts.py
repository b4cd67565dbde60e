import copy
import unittest

from blotsure.fonts import columns_of, make_font, signs_of
from helpers import NO_SIGNS, NO_WHOLES, VERY_FAR, Draw, assert_all_tuples, assert_refused

SIGNS = " !\"#$&'()*+,-./0123456789:;<=>?@ABCDEFGHIJKLMNOPQRSTUVWXYZ[\\]^_`abcdefghijklmnopqrstuvwxyz{|}~"
FORTY = SIGNS[-40:]


def plain():
    return [("c", [7, 0, 3]), ("a", [1]), (" ", [0]), ("B", [5, 2]), ("b", [5, 2])]


class MakeFontTest(unittest.TestCase):
    def test_pairs_in_any_order_are_sorted_by_their_signs(self):
        wanted = (3, ((" ", (0,)), ("B", (5, 2)), ("a", (1,)), ("b", (5, 2)), ("c", (7, 0, 3))))
        draw = Draw(7)
        for _ in range(20):
            self.assertEqual(make_font(3, draw.shuffled(plain())), wanted)

    def test_it_is_tuples_all_the_way_down(self):
        assert_all_tuples(self, make_font(3, plain()))

    def test_pairs_that_are_lists_and_columns_that_are_tuples_make_the_same_tuples(self):
        font = make_font(2, [["b", (1, 2)], ["a", [3]]])
        self.assertEqual(font, (2, (("a", (3,)), ("b", (1, 2)))))
        assert_all_tuples(self, font)

    def test_one_letter(self):
        self.assertEqual(make_font(1, [("a", [0])]), (1, (("a", (0,)),)))

    def test_forty_letters(self):
        font = make_font(6, [(sign, [place]) for place, sign in enumerate(FORTY)])
        self.assertEqual(font, (6, tuple((sign, (place,)) for place, sign in enumerate(FORTY))))

    def test_one_to_eight_columns(self):
        for wide in range(1, 9):
            columns = [wide] * (wide - 1) + [0]
            self.assertEqual(make_font(4, [("a", columns)]), (4, (("a", tuple(columns)),)))

    def test_each_sign_may_be_a_letter(self):
        for sign in SIGNS:
            self.assertEqual(make_font(1, [(sign, [1])]), (1, ((sign, (1,)),)))

    def test_two_letters_with_the_same_columns(self):
        columns = [1, 2]
        self.assertEqual(make_font(2, [("b", columns), ("a", columns)]), (2, (("a", (1, 2)), ("b", (1, 2)))))

    def test_columns_at_the_edges_of_each_height(self):
        for height in range(1, 61):
            font = make_font(height, [("a", [0, 2 ** height - 1])])
            self.assertEqual(font, (height, (("a", (0, 2 ** height - 1)),)))

    def test_what_was_handed_in_stays(self):
        letters = plain()
        make_font(3, letters)
        self.assertEqual(letters, plain())
        self.assertTrue(all(isinstance(columns, list) for _, columns in letters))

    def test_the_font_stays_when_what_was_handed_in_is_changed(self):
        letters = plain()
        font = make_font(3, letters)
        wanted = copy.deepcopy(font)
        letters[0][1].append(1)
        letters[1][1][0] = 6
        letters[2][1].clear()
        letters.append(("d", [1]))
        letters.reverse()
        self.assertEqual(font, wanted)
        self.assertEqual(make_font(3, plain()), wanted)


class NoFontTest(unittest.TestCase):
    def assert_no_font(self, height, letters):
        before = repr(letters)
        assert_refused(self, "NoFont", make_font, height, letters)
        self.assertEqual(repr(letters), before)

    def test_a_height_that_is_none(self):
        for height in (0, -1, -60, 61, 62, 100, 2 ** 60, VERY_FAR, -VERY_FAR) + NO_WHOLES:
            self.assert_no_font(height, [("a", [0])])
            self.assert_no_font(height, [("a", [1, 1]), ("b", [0])])

    def test_no_pairs(self):
        self.assert_no_font(3, [])

    def test_more_than_forty_pairs(self):
        for many in (41, 42, 94):
            self.assert_no_font(3, [(sign, [1]) for sign in SIGNS[:many]])

    def test_forty_one_pairs_with_a_sign_twice(self):
        self.assert_no_font(3, [(sign, [1]) for sign in FORTY + FORTY[0]])

    def test_a_sign_that_is_none(self):
        for sign in NO_SIGNS:
            for place in range(3):
                letters = [("a", [1]), ("b", [2])]
                letters.insert(place, (sign, [1]))
                self.assert_no_font(3, letters)
            self.assert_no_font(3, [(sign, [1])])

    def test_a_sign_that_comes_twice(self):
        for columns in ([1], [2], [1, 1]):
            self.assert_no_font(3, [("a", [1]), ("a", columns)])
            self.assert_no_font(3, [("a", [1]), ("b", [1]), ("a", columns)])
            self.assert_no_font(3, [("c", [1]), ("a", columns), ("b", [1]), ("a", [1])])

    def test_no_columns(self):
        self.assert_no_font(3, [("a", [])])
        self.assert_no_font(3, [("a", [1]), ("b", [])])
        self.assert_no_font(3, [("b", []), ("a", [1])])

    def test_more_than_eight_columns(self):
        for wide in (9, 10, 400):
            self.assert_no_font(3, [("a", [1] * wide)])
            self.assert_no_font(3, [("a", [1]), ("b", [0] * wide)])

    def test_a_column_that_is_none_at_each_place(self):
        for column in (-1, -8, 8, 9, 16, VERY_FAR, -VERY_FAR) + NO_WHOLES:
            for wide in (1, 2, 8):
                for place in range(wide):
                    columns = [1] * wide
                    columns[place] = column
                    self.assert_no_font(3, [("a", columns)])
                    self.assert_no_font(3, [("a", [7]), ("b", columns), ("c", [0])])

    def test_columns_beyond_each_height(self):
        for height in range(1, 61):
            for column in (-1, 2 ** height, 2 ** height + 1, -(2 ** height)):
                self.assert_no_font(height, [("a", [0, column])])


class SignsAndColumnsTest(unittest.TestCase):
    def test_signs_of_in_their_order(self):
        self.assertEqual(signs_of(make_font(3, plain())), " Babc")
        self.assertEqual(signs_of(make_font(3, [("a", [1])])), "a")
        self.assertEqual(signs_of(make_font(3, [(sign, [1]) for sign in reversed(FORTY)])), FORTY)

    def test_columns_of_each_sign(self):
        font = make_font(3, plain())
        for sign, columns in plain():
            told = columns_of(font, sign)
            self.assertEqual(told, columns)
            self.assertIsInstance(told, list)

    def test_columns_of_each_of_forty(self):
        font = make_font(6, [(sign, [place, 0]) for place, sign in enumerate(FORTY)])
        for place, sign in enumerate(FORTY):
            self.assertEqual(columns_of(font, sign), [place, 0])

    def test_the_columns_told_are_the_askers_own(self):
        font = make_font(3, plain())
        wanted = copy.deepcopy(font)
        first, second = columns_of(font, "c"), columns_of(font, "c")
        self.assertIsNot(first, second)
        first[0] = 1
        first.append(4)
        self.assertEqual(second, [7, 0, 3])
        self.assertEqual(columns_of(font, "c"), [7, 0, 3])
        self.assertEqual(font, wanted)

    def test_a_sign_that_the_font_does_not_have(self):
        font = make_font(3, plain())
        for sign in SIGNS:
            if sign not in " Babc":
                assert_refused(self, "NoSign", columns_of, font, sign)

    def test_anything_that_is_no_sign(self):
        for font in (make_font(3, plain()), make_font(1, [("a", [1])])):
            for thing in NO_SIGNS + ("ba", " B", "abc"):
                assert_refused(self, "NoSign", columns_of, font, thing)

    def test_the_font_stays(self):
        font = make_font(3, plain())
        wanted = copy.deepcopy(font)
        signs_of(font)
        columns_of(font, "a")
        self.assertEqual(font, wanted)


if __name__ == "__main__":
    unittest.main()
