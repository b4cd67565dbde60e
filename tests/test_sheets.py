import copy
import unittest

from blotsure.sheets import sheet, strips_of
from blotsure.strips import drawn
from helpers import Draw, assert_refused


def drawn_strips(draw, height, many, wide):
    return [[draw.below(2 ** height) for _ in range(wide)] for _ in range(many)]


class SheetTest(unittest.TestCase):
    def test_one_by_hand(self):
        wanted = ["##.", "#.#", "##.", "..#", "..#", "..."]
        self.assertEqual(sheet(3, [[7, 5, 2], [0, 0, 3]]), wanted)
        self.assertEqual(sheet(1, [[1, 0], [0, 1], [1, 1]]), ["#.", ".#", "##"])

    def test_strip_beneath_strip_with_nothing_between(self):
        draw = Draw(101)
        for height in (1, 2, 7, 60):
            strips = drawn_strips(draw, height, 5, 9)
            wanted = []
            for strip in strips:
                wanted += drawn(height, strip)
            self.assertEqual(sheet(height, strips), wanted)
            self.assertEqual(len(wanted), 5 * height)

    def test_no_strips(self):
        for height in (1, 3, 60):
            self.assertEqual(sheet(height, []), [])
            self.assertEqual(strips_of(height, []), [])

    def test_strips_without_columns(self):
        self.assertEqual(sheet(3, [[]]), ["", "", ""])
        self.assertEqual(sheet(2, [[], [], []]), [""] * 6)
        self.assertEqual(strips_of(3, ["", "", ""]), [[]])
        self.assertEqual(strips_of(2, [""] * 6), [[], [], []])
        self.assertEqual(strips_of(1, [""]), [[]])

    def test_there_and_back(self):
        draw = Draw(103)
        for height in (1, 2, 3, 5, 59, 60):
            for many in (0, 1, 2, 6):
                for wide in (0, 1, 2, 13):
                    strips = drawn_strips(draw, height, many, wide)
                    lines = sheet(height, strips)
                    self.assertEqual(strips_of(height, lines), strips)
                    self.assertEqual(sheet(height, strips_of(height, lines)), lines)

    def test_as_many_as_there_can_be(self):
        draw = Draw(107)
        strips = drawn_strips(draw, 60, 400, 40)
        lines = sheet(60, strips)
        self.assertEqual(len(lines), 24000)
        self.assertEqual(strips_of(60, lines), strips)
        wanted = [[1 if sign == "#" else 0 for sign in line] for line in lines[:400]]
        self.assertEqual(strips_of(1, lines[:400]), wanted)
        wide = drawn_strips(draw, 3, 400, 400)
        self.assertEqual(strips_of(3, sheet(3, wide)), wide)

    def test_strips_with_unlike_numbers_of_columns(self):
        for strips in (
            [[1], [1, 0]], [[1, 0], [1]], [[], [1]], [[1], []], [[1, 1], [0, 0], [1]], [[1, 1], [0, 0], [1, 1, 1]],
            [[0] * 400, [0] * 399],
        ):
            assert_refused(self, "NotAlike", sheet, 3, strips)

    def test_the_sheet_is_the_askers_own(self):
        strips = [[7, 5, 2], [0, 0, 3]]
        before = copy.deepcopy(strips)
        told, again = sheet(3, strips), sheet(3, strips)
        self.assertEqual(strips, before)
        self.assertIs(type(told), list)
        wanted = list(again)
        told.append("")
        strips[0].append(1)
        self.assertEqual(again, wanted)
        self.assertEqual(sheet(3, before), wanted)
        empty = sheet(3, [])
        empty.append("")
        self.assertEqual(sheet(3, []), [])


class StripsOfTest(unittest.TestCase):
    def test_one_by_hand(self):
        lines = ["##.", "#.#", "##.", "..#", "..#", "..."]
        self.assertEqual(strips_of(3, lines), [[7, 5, 2], [0, 0, 3]])
        self.assertEqual(strips_of(2, lines), [[3, 1, 2], [1, 1, 2], [0, 0, 1]])
        self.assertEqual(strips_of(6, lines), [[7, 5, 26]])

    def test_a_number_of_texts_that_cannot_be_divided(self):
        for height, many in ((2, 1), (2, 3), (3, 4), (3, 5), (3, 1), (60, 59), (60, 61), (60, 1), (7, 400)):
            assert_refused(self, "NoSheet", strips_of, height, ["#."] * many)
            assert_refused(self, "NoSheet", strips_of, height, [""] * many)

    def test_texts_of_unlike_lengths(self):
        for lines in (
            ["#", "##"], ["##", "#"], ["", "#"], ["#", ""], ["#.", "#.", "#.", "#"], ["#.", "#.", "#", "#."],
            # Each strip by itself would do.
            ["#", "#", "##", "##"], ["", "", ".", "."], ["..", "..", ".", "."],
        ):
            assert_refused(self, "NoSheet", strips_of, 2, lines)
        assert_refused(self, "NoSheet", strips_of, 1, ["#", "##"])
        assert_refused(self, "NoSheet", strips_of, 1, ["#", "#", ""])

    def test_other_signs(self):
        for sign in ("x", " ", "0", "1", ":", "\n", "\t", "%", "\u00e9"):
            for lines in (
                [sign, "#"], ["#", sign], ["#", "#", "#", sign], ["#", "#", sign, "."], ["#." + sign, "..."],
                ["...", sign + ".."],
            ):
                assert_refused(self, "NoSheet", strips_of, 2, lines)

    def test_the_strips_are_the_askers_own(self):
        lines = ["#.", "#.", "#.", "#."]
        told, again = strips_of(2, lines), strips_of(2, lines)
        self.assertEqual(lines, ["#.", "#.", "#.", "#."])
        strips = [id(strip) for strip in told + again]
        self.assertEqual(len(strips), len(set(strips)))
        for strip in told:
            self.assertIs(type(strip), list)
            strip.append(1)
        told.append([])
        lines.append("")
        self.assertEqual(again, [[3, 0], [3, 0]])
        empty = strips_of(2, [])
        empty.append([])
        self.assertEqual(strips_of(2, []), [])


if __name__ == "__main__":
    unittest.main()
