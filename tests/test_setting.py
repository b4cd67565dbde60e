import unittest

from blotsure.fonts import make_font
from blotsure.setting import breadth, seams, set_text
from helpers import assert_refused

LETTERS = {"a": [1], "b": [2, 3], "c": [7, 0, 7], " ": [0], "w": [1, 2, 3, 4, 5, 6, 7, 0], "A": [1]}
FONT = make_font(3, list(LETTERS.items()))
TEXTS = (
    "", "a", "b", "w", " ", "ab", "ba", "aa", "abc", "cab cab", "  ", "wawbwc", "aAaA",
    "a" * 400, "w" * 400, "abc w" * 80,
)


class SettingTest(unittest.TestCase):
    def test_set_text(self):
        self.assertEqual(set_text(FONT, ""), [])
        self.assertEqual(set_text(FONT, "c"), [7, 0, 7])
        self.assertEqual(set_text(FONT, "ab c"), [1, 2, 3, 0, 7, 0, 7])
        self.assertEqual(set_text(FONT, "ba"), [2, 3, 1])

    def test_breadth(self):
        self.assertEqual(breadth(FONT, ""), 0)
        self.assertEqual(breadth(FONT, "c"), 3)
        self.assertEqual(breadth(FONT, "ab c"), 7)
        self.assertEqual(breadth(FONT, "w" * 400), 3200)

    def test_seams(self):
        self.assertEqual(seams(FONT, ""), [0])
        self.assertEqual(seams(FONT, "a"), [0, 1])
        self.assertEqual(seams(FONT, "c"), [0, 3])
        self.assertEqual(seams(FONT, "ab c"), [0, 1, 3, 4, 7])
        self.assertEqual(seams(FONT, "ww"), [0, 8, 16])

    def test_each_letter_lies_between_its_seams(self):
        for text in TEXTS:
            strip, marks = set_text(FONT, text), seams(FONT, text)
            self.assertEqual(len(marks), len(text) + 1)
            self.assertEqual((marks[0], marks[-1]), (0, len(strip)))
            for place, sign in enumerate(text):
                self.assertEqual(strip[marks[place]:marks[place + 1]], LETTERS[sign])
            self.assertEqual(breadth(FONT, text), len(strip))

    def test_a_sign_that_the_font_does_not_have(self):
        for ask in (set_text, breadth, seams):
            for sign in "dBC-~0":
                for text in (sign, sign + "ab", "a" + sign + "b", "ab" + sign, sign * 3, "a" * 399 + sign):
                    assert_refused(self, "NoSign", ask, FONT, text)

    def test_the_lists_told_are_the_askers_own(self):
        for ask in (set_text, seams):
            for text in ("", "a", "cab"):
                first, second = ask(FONT, text), ask(FONT, text)
                wanted = list(second)
                self.assertIsInstance(first, list)
                self.assertIsNot(first, second)
                first.append(99)
                first[0] = 98
                self.assertEqual(second, wanted)
                self.assertEqual(ask(FONT, text), wanted)

    def test_the_font_stays(self):
        wanted = make_font(3, list(LETTERS.items()))
        for ask in (set_text, breadth, seams):
            ask(FONT, "cab")
        self.assertEqual(FONT, wanted)


if __name__ == "__main__":
    unittest.main()
