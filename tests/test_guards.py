import copy
import unittest

from blotsure.far import farness
from blotsure.fonts import make_font
from blotsure.guards import guards
from blotsure.makers import sums
from far_cases import EVEN, MIXED, TALL, farness_by_pairs
from helpers import VERY_FAR, assert_refused
from near_cases import NARROW

TWO = make_font(2, [("a", [0]), ("b", [3])])
# Of MIXED, x and y are [1], z is [1, 1], u is [3, 0], v is [0, 2, 3], w is [2].


def fars(font, signs, most):
    told = [farness(font, sums(signs, many)) for many in range(1, most + 1)]
    return [None if thing is None else thing[0] for thing in told]


class GuardsTest(unittest.TestCase):
    def test_some_by_hand(self):
        # Both differ in 2 dots; from a many of 2 on two letters at least are unlike.
        self.assertEqual(guards(TWO, "ab", 4, 40), [2, 4])
        self.assertEqual(guards(TWO, "ab", 3, 40), [2, 4])
        self.assertEqual(guards(TWO, "ab", 2, 40), [2])
        self.assertEqual(guards(TWO, "ab", 5, 3), [2, 4, 4])

    def test_held_against_all_pairs(self):
        for font, signs in ((TWO, "ab"), (TWO, "ba"), (NARROW, "abc"), (EVEN, "abcd"), (EVEN, "dba"), (MIXED, "uw")):
            told = guards(font, signs, VERY_FAR, 3)
            self.assertEqual(told, [farness_by_pairs(font, sums(signs, many), 6) for many in range(1, 4)])

    def test_held_against_the_farness_of_each_sums_house(self):
        for font, signs in ((NARROW, "abcB"), (MIXED, "xyzuvw"), (MIXED, "wvu"), (EVEN, "abcd"), (TALL, "cab")):
            self.assertEqual(guards(font, signs, VERY_FAR, 6), fars(font, signs, 6))

    def test_it_ends_at_the_first_that_is_at_least_the_wish(self):
        for font, signs in ((NARROW, "abc"), (EVEN, "abcd"), (MIXED, "uvw"), (TWO, "ab"), (TALL, "abc")):
            every = fars(font, signs, 7)
            for wish in range(-1, 14):
                told = guards(font, signs, wish, 7)
                self.assertEqual(told, every[:len(told)])
                for far in told[:-1]:
                    self.assertLess(far, wish)
                self.assertTrue(len(told) == 7 or told[-1] >= wish)

    def test_a_wish_that_is_just_met_and_just_not(self):
        self.assertEqual(guards(EVEN, "ab", 6, 1), [6])
        self.assertEqual(guards(EVEN, "ab", 6, 9), [6])
        self.assertEqual(guards(EVEN, "ab", 7, 9), [6, 12])
        self.assertEqual(guards(EVEN, "ab", 12, 9), [6, 12])
        self.assertEqual(guards(EVEN, "ab", 13, 4), [6, 12, 12, 12])

    def test_a_wish_of_nought_and_below(self):
        for wish in (0, -1, -VERY_FAR):
            self.assertEqual(guards(EVEN, "ab", wish, 40), [6])
            self.assertEqual(guards(MIXED, "xy", wish, 40), [0])
        self.assertEqual(guards(MIXED, "xy", 1, 3), fars(MIXED, "xy", 3))

    def test_a_very_great_wish_and_the_greatest_many(self):
        told = guards(TWO, "ab", VERY_FAR, 40)
        self.assertEqual(told, [2] + [4] * 39)
        self.assertEqual(guards(TWO, "ab", VERY_FAR, 1), [2])
        self.assertEqual(guards(TWO, "ab", VERY_FAR, 2), [2, 4])

    def test_it_ends_at_a_none(self):
        # With one sign each width has one text at most. With two there are texts of one width in every sums house, so
        # None is never behind a number.
        self.assertEqual(guards(TWO, "a", VERY_FAR, 40), [None])
        self.assertEqual(guards(TWO, "a", 0, 40), [None])
        self.assertEqual(guards(TWO, "a", -VERY_FAR, 1), [None])

    def test_signs_that_the_font_lacks(self):
        self.assertEqual(guards(TWO, "aqb", 100, 3), fars(TWO, "aqb", 3))
        self.assertEqual(guards(TWO, "qa", VERY_FAR, 5), [None])
        self.assertEqual(guards(TWO, "qpz", VERY_FAR, 5), [None])
        # A sign that the font lacks still has its place, so the others are worth more.
        self.assertEqual(guards(TWO, "ab", VERY_FAR, 2), [2, 4])
        self.assertEqual(guards(TWO, "aqb", VERY_FAR, 2), [2, 2])

    def test_a_text_without_signs(self):
        self.assertEqual(guards(TWO, "", 3, 5), [None])

    def test_a_sign_that_comes_twice(self):
        for signs in ("aa", "aba", "qq", "abqq"):
            for wish in (-1, 0, VERY_FAR):
                assert_refused(self, "NoHouse", guards, TWO, signs, wish, 1)
                assert_refused(self, "NoHouse", guards, TWO, signs, wish, 40)

    def test_it_is_a_list_and_the_askers_own(self):
        font = copy.deepcopy(TWO)
        told, again = guards(font, "ab", 4, 40), guards(font, "ab", 4, 40)
        self.assertIs(type(told), list)
        self.assertEqual([type(far) for far in told], [int, int])
        told.append(9)
        self.assertEqual(again, [2, 4])
        self.assertEqual(guards(font, "ab", 4, 40), [2, 4])
        self.assertEqual(font, TWO)


if __name__ == "__main__":
    unittest.main()
