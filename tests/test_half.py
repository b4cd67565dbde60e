import copy
import unittest

from blotsure.far import farness, mends
from blotsure.fonts import make_font
from blotsure.half import halfway
from blotsure.near import nearest
from blotsure.setting import set_text
from blotsure.strips import gap
from far_cases import EVEN, MANY, MIXED
from helpers import Draw, assert_refused
from near_cases import NARROW

# Of MIXED, x and y are [1], z is [1, 1], u is [3, 0], v is [0, 2, 3], w is [2].


def halfway_by_hand(font, one, other):
    """The picture of the one, with its dots made like the other's spot by spot, till half of them are."""
    left, right = set_text(font, one), set_text(font, other)
    unlike = [
        (x, y) for x in range(len(left)) for y in range(font[0]) if left[x] >> y & 1 != right[x] >> y & 1
    ]
    for x, y in unlike[:(len(unlike) + 1) // 2]:
        left[x] = left[x] & ~2 ** y | right[x] & 2 ** y
    return left


class HalfwayTest(unittest.TestCase):
    def test_an_even_number_of_unlike_spots(self):
        # Twelve spots, three in each column; the first six of them lie in columns 0 and 1.
        self.assertEqual(halfway(EVEN, "ab", "ba"), [0, 7, 0, 7])
        self.assertEqual(halfway(EVEN, "ba", "ab"), [7, 0, 7, 0])
        self.assertEqual(halfway(MIXED, "x", "w"), [0])
        self.assertEqual(halfway(MIXED, "w", "x"), [3])

    def test_an_odd_number_of_unlike_spots(self):
        # Three spots, of which the first two, by line, are turned over.
        self.assertEqual(halfway(EVEN, "a", "c"), [7, 3])
        self.assertEqual(halfway(EVEN, "c", "a"), [7, 4])
        # One spot.
        self.assertEqual(halfway(NARROW, "a", "b"), [1])
        self.assertEqual(halfway(NARROW, "b", "a"), [0])
        # Nine spots, three each in columns 0, 1 and 3; the first five of them lie in columns 0 and 1.
        self.assertEqual(halfway(EVEN, "aa", "bc"), [0, 3, 7, 0])

    def test_the_first_spots_by_column_then_line(self):
        font = make_font(4, [("a", [0, 0, 0]), ("b", [8, 1, 6])])
        self.assertEqual(halfway(font, "a", "b"), [8, 1, 0])
        self.assertEqual(halfway(font, "b", "a"), [0, 0, 6])
        font = make_font(60, [("a", [0]), ("b", [2 ** 60 - 1])])
        self.assertEqual(halfway(font, "a", "b"), [2 ** 30 - 1])
        self.assertEqual(halfway(font, "b", "a"), [2 ** 60 - 2 ** 30])

    def test_of_a_text_and_itself(self):
        for text in ("", "x", "vuw", "xyzzy", "u" * 400):
            self.assertEqual(halfway(MIXED, text, text), set_text(MIXED, text))

    def test_of_letters_with_the_same_columns(self):
        self.assertEqual(halfway(MIXED, "x", "y"), [1])
        self.assertEqual(halfway(MIXED, "xy", "z"), [1, 1])
        self.assertEqual(halfway(MIXED, "zu", "yxu"), [1, 1, 3, 0])

    def test_of_texts_without_signs(self):
        self.assertEqual(halfway(MIXED, "", ""), [])

    def test_of_drawn_texts(self):
        draw = Draw(61)
        looked = 0
        for _ in range(3000):
            one = "".join(draw.one_of("xyzuvw") for _ in range(draw.below(6)))
            other = "".join(draw.one_of("xyzuvw") for _ in range(draw.below(6)))
            left, right = set_text(MIXED, one), set_text(MIXED, other)
            if len(left) != len(right):
                assert_refused(self, "NotAlike", halfway, MIXED, one, other)
                continue
            looked += 1
            told = halfway(MIXED, one, other)
            far = gap(left, right)
            self.assertEqual(told, halfway_by_hand(MIXED, one, other))
            self.assertEqual(gap(told, left), (far + 1) // 2)
            self.assertEqual(gap(told, right), far // 2)
        self.assertGreater(looked, 200)

    def test_of_texts_of_four_hundred_signs(self):
        one, other = "u" * 400, "z" * 400
        told = halfway(MIXED, one, other)
        self.assertEqual(told, [1, 1] * 200 + [3, 0] * 200)

    def test_a_sign_that_the_font_lacks(self):
        for one, other in (
            ("q", "x"), ("x", "q"), ("q", "q"), ("xq", "z"), ("z", "qx"), ("", "q"), ("q", ""), ("u", "xxxxq"),
            ("qqqq", "x"), ("x", "\n"), ("\t", "x"), ("x ", "xy"), ("xy", "x%"),
        ):
            assert_refused(self, "NoSign", halfway, MIXED, one, other)

    def test_texts_of_unlike_widths(self):
        for one, other in (("x", "z"), ("z", "x"), ("", "x"), ("x", ""), ("uu", "v"), ("x" * 400, "z" * 199)):
            assert_refused(self, "NotAlike", halfway, MIXED, one, other)

    def test_no_nearer_to_the_one_than_to_the_other(self):
        looked = 0
        for font, house in MANY:
            told = farness(font, house)
            if told is not None:
                looked += 1
                far, one, other = told
                for first, second in ((one, other), (other, one)):
                    strip = halfway(font, first, second)
                    to_first = gap(strip, set_text(font, first))
                    to_second = gap(strip, set_text(font, second))
                    self.assertGreaterEqual(to_first, to_second)
                    self.assertEqual(to_first, mends(font, house) + 1)
                    text, _, many = nearest(font, house, strip)
                    self.assertFalse(text == first and many == 1)
        self.assertGreater(looked, 25)

    def test_the_strip_is_the_askers_own(self):
        for one, other in (("", ""), ("x", "x"), ("x", "w"), ("ab", "ba")):
            font = EVEN if one == "ab" else MIXED
            before = copy.deepcopy(font)
            told, again = halfway(font, one, other), halfway(font, one, other)
            self.assertIs(type(told), list)
            wanted = list(again)
            told.append(9)
            self.assertEqual(again, wanted)
            self.assertEqual(halfway(font, one, other), wanted)
            self.assertEqual(font, before)


if __name__ == "__main__":
    unittest.main()
