import unittest

from blotsure.dots import is_sign
from blotsure.notes import read_letter, read_number, read_spot, read_strip, show_strip
from helpers import Draw, assert_refused

# Nothing of these is a number as it is written.
NO_NUMBERS = (
    "", "00", "01", "007", "0" * 20, "0" + "1" * 19, "1" * 21, "9" * 21, "0" * 21, "1" * 4300, "1" * 20000,
    "-1", "+1", "-0", "+0", "-", "+", "--1", "1-", "1+", " ", " 1", "1 ", "1 2", "\t", "\t1", "1\t", "\n", "1\n",
    "\n1", "1\r", "1\n2", "1_0", "1_000", "0x1", "0b1", "1e3", "1.0", "1.", ".1", "a", "1a", "a1",
    "\u0661", "\u0967", "\uff11", "\u00b2", "\u00b9", "1\u00b2", "\u2460", "\u00bd", "\u00e9", "%", "1%", "None",
    "True", "1\x00", "\x00", "\u00a01", "1\u00a0", "\x0c1", "\ud800", "1\u200b",
)


class NumberTest(unittest.TestCase):
    def test_numbers(self):
        for number in (0, 1, 7, 9, 10, 42, 100, 101, 1000, 1234567890, 10 ** 19, 10 ** 20 - 1, 12345678901234567890):
            told = read_number(str(number))
            self.assertEqual(told, number)
            self.assertIs(type(told), int)

    def test_one_figure_and_twenty(self):
        for figure in "0123456789":
            self.assertEqual(read_number(figure), "0123456789".index(figure))
        self.assertEqual(read_number("9" * 20), 10 ** 20 - 1)
        self.assertEqual(read_number("1" + "0" * 19), 10 ** 19)
        for text in ("9" * 21, "1" + "0" * 20):
            assert_refused(self, "NoNote", read_number, text)

    def test_what_is_not_written_so(self):
        for text in NO_NUMBERS + ("1,", ",1", "1,2"):
            assert_refused(self, "NoNote", read_number, text)

    def test_each_other_sign(self):
        for number in list(range(0x300)) + [0x660, 0x6F5, 0xFF10, 0x1D7CE]:
            sign = chr(number)
            if sign not in "0123456789":
                for text in (sign, sign + "1", "1" + sign, "1" + sign + "1"):
                    assert_refused(self, "NoNote", read_number, text)


class StripTest(unittest.TestCase):
    def test_shown(self):
        self.assertEqual(show_strip([]), "-")
        self.assertEqual(show_strip([0]), "0")
        self.assertEqual(show_strip([7, 5, 2]), "7,5,2")
        self.assertEqual(show_strip([0, 0, 2 ** 60 - 1]), "0,0,1152921504606846975")
        self.assertEqual(show_strip([1] * 400), ",".join(["1"] * 400))

    def test_read(self):
        self.assertEqual(read_strip(3, "-"), [])
        self.assertEqual(read_strip(3, "0"), [0])
        self.assertEqual(read_strip(3, "7,5,2"), [7, 5, 2])
        self.assertEqual(read_strip(60, "0,0,1152921504606846975"), [0, 0, 2 ** 60 - 1])

    def test_there_and_back(self):
        draw = Draw(113)
        for height in (1, 3, 8, 31, 60):
            for wide in (0, 1, 2, 40, 400):
                strip = [draw.below(2 ** 31) * draw.below(2 ** 31) % 2 ** height for _ in range(wide)]
                kept = list(strip)
                text = show_strip(strip)
                self.assertEqual(strip, kept)
                self.assertEqual(read_strip(height, text), strip)
                self.assertEqual(show_strip(read_strip(height, text)), text)

    def test_a_written_strip_of_many_signs(self):
        text = ",".join(["1"] * 10000)
        self.assertEqual(read_strip(1, text), [1] * 10000)
        assert_refused(self, "NoNote", read_strip, 1, text + ",")
        assert_refused(self, "NoNote", read_strip, 1, "1" * 20000)

    def test_commas_too_many_and_too_few(self):
        for text in (",", ",,", "1,", ",1", "1,,2", "1,2,", ",1,2", "1 2", "1;2", "1, 2", "1 ,2", "12,34,"):
            assert_refused(self, "NoNote", read_strip, 60, text)

    def test_the_strip_without_columns_is_written_by_a_stroke_alone(self):
        for text in ("", "--", "-,", ",-", "-,-", "1,-", "-,1", " -", "- ", "-\n", "\t-", "-0", "-1", "- -"):
            assert_refused(self, "NoNote", read_strip, 60, text)

    def test_numbers_that_are_none(self):
        for text in NO_NUMBERS:
            if text != "-":
                assert_refused(self, "NoNote", read_strip, 60, text)
            assert_refused(self, "NoNote", read_strip, 60, "1," + text)
            assert_refused(self, "NoNote", read_strip, 60, text + ",1")

    def test_columns_that_the_height_does_not_have(self):
        for height in (1, 2, 3, 8, 59, 60):
            self.assertEqual(read_strip(height, f"{2 ** height - 1}"), [2 ** height - 1])
            assert_refused(self, "NoNote", read_strip, height, f"{2 ** height}")
            assert_refused(self, "NoNote", read_strip, height, f"0,{2 ** height}")
            assert_refused(self, "NoNote", read_strip, height, f"{2 ** height},0")
        assert_refused(self, "NoNote", read_strip, 60, "9" * 20)
        assert_refused(self, "NoNote", read_strip, 3, "7,8,7")

    def test_the_strip_is_the_askers_own(self):
        for text in ("-", "7,5,2"):
            told, again = read_strip(3, text), read_strip(3, text)
            self.assertIs(type(told), list)
            wanted = list(again)
            told.append(9)
            self.assertEqual(again, wanted)
            self.assertEqual(read_strip(3, text), wanted)


class SpotTest(unittest.TestCase):
    def test_spots(self):
        for spot in ((0, 0), (1, 2), (10, 0), (0, 59), (399, 59), (10 ** 20 - 1, 10 ** 20 - 1)):
            told = read_spot(f"{spot[0]},{spot[1]}")
            self.assertEqual(told, spot)
            self.assertIs(type(told), tuple)

    def test_what_is_not_written_so(self):
        for text in (
            "", "-", ",", "1", "1,", ",1", "1,2,", ",1,2", "1,2,3", "1,,2", "1 2", "1, 2", " 1,2", "1,2 ", "1;2",
            "(1,2)", "1,2\n", "\t1,2", "-,1", "1,-", "1,2,3,4",
        ):
            assert_refused(self, "NoNote", read_spot, text)
        for text in NO_NUMBERS:
            assert_refused(self, "NoNote", read_spot, text)
            assert_refused(self, "NoNote", read_spot, "1," + text)
            assert_refused(self, "NoNote", read_spot, text + ",1")


class LetterTest(unittest.TestCase):
    def test_letters(self):
        for text, wanted in (
            ("a:1", ("a", [1])), ("a:7,5,2", ("a", [7, 5, 2])), ("a:-", ("a", [])), ("~:0", ("~", [0])),
            ("0:1", ("0", [1])), (" :1", (" ", [1])), ("-:-", ("-", [])), ("-:1", ("-", [1])), (f"a:{2 ** 60 - 1}",
            ("a", [2 ** 60 - 1])),
            ("a:1,1,1,1,1,1,1,1,1", ("a", [1] * 9)),
        ):
            told = read_letter(text)
            self.assertEqual(told, wanted)
            self.assertEqual([type(told), type(told[0]), type(told[1])], [tuple, str, list])

    def test_of_a_colon_and_of_a_comma(self):
        self.assertEqual(read_letter("::1"), (":", [1]))
        self.assertEqual(read_letter("::1,2"), (":", [1, 2]))
        self.assertEqual(read_letter("::-"), (":", []))
        self.assertEqual(read_letter(",:1"), (",", [1]))
        self.assertEqual(read_letter(",:1,2"), (",", [1, 2]))

    def test_of_each_sign(self):
        for number in range(0x180):
            sign = chr(number)
            if is_sign(sign):
                self.assertEqual(read_letter(sign + ":3,4"), (sign, [3, 4]))
            else:
                assert_refused(self, "NoNote", read_letter, sign + ":3,4")

    def test_what_is_not_written_so(self):
        for text in (
            "", "a", ":", "::", ":::", "a:", "a1", "a,1", "1", "ab:1", "a::1", ":1", ":a:1", "a :1", "a: 1", " a:1",
            "a:1 ", "a:1\n", "\na:1", "a\n:1", "\n:1", "\t:1", "%:1", "a:1,", "a:,1", "a:1,,2", "a:--", "a:-,1",
            "a;1", "a=1", "a:1:2", "a:b:1", "aa:1", "\u00e9:1", "a\uff1a1", ",1", ",,:1", ",:", ",:,", "a:a:1", "-",
            "1,2",
        ):
            assert_refused(self, "NoNote", read_letter, text)
        for text in NO_NUMBERS:
            if text != "-":
                assert_refused(self, "NoNote", read_letter, "a:" + text)

    def test_columns_of_the_height_sixty(self):
        self.assertEqual(read_letter("a:1152921504606846975"), ("a", [2 ** 60 - 1]))
        assert_refused(self, "NoNote", read_letter, "a:1152921504606846976")
        assert_refused(self, "NoNote", read_letter, "a:0,1152921504606846976")
        assert_refused(self, "NoNote", read_letter, "a:" + "9" * 20)

    def test_the_columns_are_the_askers_own(self):
        told, again = read_letter("a:1,2"), read_letter("a:1,2")
        told[1].append(9)
        self.assertEqual(again, ("a", [1, 2]))
        self.assertEqual(read_letter("a:1,2"), ("a", [1, 2]))
        empty = read_letter("a:-")
        empty[1].append(9)
        self.assertEqual(read_letter("a:-"), ("a", []))


if __name__ == "__main__":
    unittest.main()
