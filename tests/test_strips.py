import unittest

from blotsure.errors import NoSheet, NotAlike, OffStrip
from blotsure.strips import drawn, gap, spots_apart, turned, undrawn

ALL_SIXTY = 2 ** 60 - 1
VERY_FAR = 10 ** 699


def has_dot(strip, x, y):
    return strip[x] // 2 ** y % 2 == 1


def spots_by_looking(one, other):
    """Each spot of height 60 is looked at by itself."""
    spots = [(x, y) for x in range(len(one)) for y in range(60)]
    return [(x, y) for x, y in spots if has_dot(one, x, y) != has_dot(other, x, y)]


PAIRS = (
    ([], []),
    ([0], [0]),
    ([5, 7, 0], [5, 7, 0]),
    ([0], [1]),
    ([0], [2 ** 59]),
    ([0, 0, 0], [0, 4, 0]),
    ([1, 2, 3], [3, 2, 1]),
    ([6, 1], [1, 6]),
    ([ALL_SIXTY, 0], [0, ALL_SIXTY]),
    ([0x0123456789ABCDEF, 2 ** 59 + 1, 9], [0x0FEDCBA987654321, 1, 2 ** 40]),
    (list(range(400)), list(range(400, 0, -1))),
)
UNLIKE_PAIRS = (
    ([], [0]),
    ([0], []),
    ([1, 2], [1]),
    ([1], [1, 2]),
    ([1, 2, 3], [1, 2, 3, 0]),
    ([0] * 400, [0] * 399),
)


class GapTest(unittest.TestCase):
    def test_gap(self):
        self.assertEqual(gap([], []), 0)
        self.assertEqual(gap([5, 7], [5, 7]), 0)
        self.assertEqual(gap([0, 0, 0], [0, 4, 0]), 1)
        self.assertEqual(gap([6, 1], [1, 6]), 6)
        self.assertEqual(gap([ALL_SIXTY] * 400, [0] * 400), 24000)

    def test_spots_apart(self):
        self.assertEqual(spots_apart([], []), [])
        self.assertEqual(spots_apart([5, 7], [5, 7]), [])
        self.assertEqual(spots_apart([0, 0, 0], [0, 4, 0]), [(1, 2)])
        self.assertEqual(spots_apart([0], [2 ** 59]), [(0, 59)])

    def test_spots_apart_in_their_order_by_x_then_y(self):
        spots = spots_apart([6, 1, 2 ** 59], [1, 6, 1])
        self.assertEqual(spots, [(0, 0), (0, 1), (0, 2), (1, 0), (1, 1), (1, 2), (2, 0), (2, 59)])

    def test_both_tell_what_looking_tells(self):
        for one, other in PAIRS:
            wanted = spots_by_looking(one, other)
            self.assertEqual(spots_apart(one, other), wanted)
            self.assertEqual(spots_apart(other, one), wanted)
            self.assertEqual(gap(one, other), len(wanted))
            self.assertEqual(gap(other, one), len(wanted))

    def test_spots_are_tuples_in_a_list(self):
        spots = spots_apart([3], [0])
        self.assertIsInstance(spots, list)
        for spot in spots:
            self.assertIsInstance(spot, tuple)

    def test_unlike_numbers_of_columns_are_refused(self):
        for ask in (gap, spots_apart):
            for one, other in UNLIKE_PAIRS:
                with self.assertRaises(NotAlike):
                    ask(one, other)

    def test_the_lists_stay(self):
        for ask in (gap, spots_apart):
            one, other = [6, 1], [1, 6]
            ask(one, other)
            self.assertEqual((one, other), ([6, 1], [1, 6]))

    def test_refused_lists_stay(self):
        for ask in (gap, spots_apart):
            one, other = [6, 1], [1, 6, 2]
            with self.assertRaises(NotAlike):
                ask(one, other)
            self.assertEqual((one, other), ([6, 1], [1, 6, 2]))

    def test_a_list_beside_itself(self):
        one = [6, 1]
        self.assertEqual(gap(one, one), 0)
        self.assertEqual(spots_apart(one, one), [])

    def test_the_spots_told_are_the_askers_own(self):
        for one, other in (([], []), ([4], [4]), ([3], [0])):
            first = spots_apart(one, other)
            wanted = list(first)
            first.append((99, 99))
            self.assertEqual(spots_apart(one, other), wanted)
            self.assertIsNot(spots_apart(one, other), spots_apart(one, other))

    def test_what_was_handed_in_is_not_kept(self):
        one, other = [3], [0]
        spots = spots_apart(one, other)
        one[0] = 0
        self.assertEqual(spots, [(0, 0), (0, 1)])
        self.assertEqual(spots_apart(one, other), [])
        self.assertEqual(gap(one, other), 0)


class TurnedTest(unittest.TestCase):
    def test_no_spots(self):
        self.assertEqual(turned(3, [], []), [])
        self.assertEqual(turned(3, [5, 0], []), [5, 0])

    def test_a_dot_goes_and_a_dot_comes(self):
        self.assertEqual(turned(3, [5, 0], [(0, 0)]), [4, 0])
        self.assertEqual(turned(3, [5, 0], [(1, 2)]), [5, 4])
        self.assertEqual(turned(1, [0], [(0, 0)]), [1])
        self.assertEqual(turned(60, [ALL_SIXTY], [(0, 59)]), [2 ** 59 - 1])
        self.assertEqual(turned(60, [0, 0], [(1, 59)]), [0, 2 ** 59])

    def test_spots_in_any_order(self):
        spots = [(0, 0), (0, 2), (1, 1), (2, 0)]
        for order in (spots, spots[::-1], [spots[2], spots[0], spots[3], spots[1]]):
            self.assertEqual(turned(3, [1, 2, 6], order), [4, 0, 7])

    def test_a_spot_told_twice_stays(self):
        self.assertEqual(turned(3, [5], [(0, 0), (0, 0)]), [5])
        self.assertEqual(turned(3, [5], [(0, 1), (0, 1)]), [5])
        self.assertEqual(turned(3, [5], [(0, 1), (0, 2), (0, 1)]), [1])

    def test_a_spot_told_three_times_is_turned(self):
        self.assertEqual(turned(3, [5], [(0, 1)] * 3), [7])

    def test_the_edges_of_the_strip_are_on_it(self):
        self.assertEqual(turned(4, [0, 0, 0], [(0, 0), (2, 0), (0, 3), (2, 3)]), [9, 0, 9])

    def test_turned_at_the_spots_apart_one_is_the_other(self):
        for one, other in PAIRS:
            self.assertEqual(turned(60, one, spots_apart(one, other)), other)

    def test_many_spots(self):
        spots = [(x, y) for x in range(400) for y in range(60)]
        self.assertEqual(turned(60, [0] * 400, spots), [ALL_SIXTY] * 400)

    def test_spots_off_the_strip_are_refused(self):
        far = (-1, -2, -3, -4, -60, -VERY_FAR, VERY_FAR)
        off = [(x, 0) for x in far + (3, 4, 400)] + [(0, y) for y in far + (2, 3, 59, 60, 61)]
        off = off + [(-1, -1), (3, 2), (VERY_FAR, VERY_FAR), (-VERY_FAR, 5)]
        good = [(0, 0), (2, 1)]
        for spot in off:
            for spots in ([spot], good + [spot], [spot] + good, [good[0], spot, good[1]], [spot, spot]):
                strip, asked = [1, 2, 3], list(spots)
                with self.assertRaises(OffStrip):
                    turned(2, strip, asked)
                self.assertEqual((strip, asked), ([1, 2, 3], spots))

    def test_each_spot_is_off_a_strip_without_columns(self):
        for spot in ((0, 0), (-1, 0), (1, 0), (0, -1)):
            with self.assertRaises(OffStrip):
                turned(2, [], [spot])

    def test_lines_from_the_height_on_are_off(self):
        for height in (1, 2, 30, 59, 60):
            self.assertEqual(turned(height, [0], [(0, height - 1)]), [2 ** (height - 1)])
            with self.assertRaises(OffStrip):
                turned(height, [0], [(0, height)])

    def test_the_lists_stay(self):
        strip, spots = [1, 2, 3], [(2, 1), (0, 0), (2, 1)]
        turned(2, strip, spots)
        self.assertEqual((strip, spots), ([1, 2, 3], [(2, 1), (0, 0), (2, 1)]))

    def test_the_strip_told_is_the_askers_own(self):
        for spots in ([], [(0, 0)], [(0, 0), (0, 0)]):
            strip = [1, 2, 3]
            answer = turned(2, strip, spots)
            self.assertIsNot(answer, strip)
            wanted = list(answer)
            strip[1] = 0
            self.assertEqual(answer, wanted)
            answer.append(0)
            self.assertEqual(strip, [1, 0, 3])
            self.assertEqual(turned(2, [1, 2, 3], spots), wanted)


class DrawnTest(unittest.TestCase):
    def test_drawn(self):
        self.assertEqual(drawn(3, [1, 6, 0]), ["#..", ".#.", ".#."])
        self.assertEqual(drawn(1, [1, 0, 1]), ["#.#"])
        self.assertEqual(drawn(60, [2 ** 59, 1]), [".#"] + [".."] * 58 + ["#."])

    def test_drawn_without_columns(self):
        for height in (1, 3, 60):
            self.assertEqual(drawn(height, []), [""] * height)

    def test_undrawn(self):
        self.assertEqual(undrawn(["#..", ".#.", ".#."]), [1, 6, 0])
        self.assertEqual(undrawn(["#.#"]), [1, 0, 1])
        self.assertEqual(undrawn(["."] * 59 + ["#"]), [2 ** 59])
        self.assertEqual(undrawn(["#"] * 60), [ALL_SIXTY])

    def test_undrawn_texts_without_signs(self):
        for height in (1, 3, 60):
            self.assertEqual(undrawn([""] * height), [])

    def test_there_and_back(self):
        strips = {
            1: ([], [0], [1], [1, 0, 0, 1], [1] * 400),
            5: ([], [0], list(range(32))),
            60: ([], [0], [ALL_SIXTY], [2 ** 59, 1, 0, 0x0123456789ABCDEF], [ALL_SIXTY, 0] * 200),
        }
        for height, told in strips.items():
            for strip in told:
                lines = drawn(height, strip)
                self.assertEqual(len(lines), height)
                self.assertEqual({len(line) for line in lines}, {len(strip)})
                self.assertEqual(undrawn(lines), strip)
                self.assertEqual(drawn(height, undrawn(lines)), lines)

    def test_drawn_has_a_sign_for_each_spot(self):
        strip = [0x0123456789ABCDEF, 0, 2 ** 59 + 2]
        for y, line in enumerate(drawn(60, strip)):
            self.assertEqual([sign == "#" for sign in line], [has_dot(strip, x, y) for x in range(3)])
            self.assertEqual(line.strip("#."), "")

    def test_no_texts_and_too_many_are_refused(self):
        for lines in ([], [""] * 61, ["#"] * 61, ["#."] * 61, ["."] * 400):
            asked = list(lines)
            with self.assertRaises(NoSheet):
                undrawn(asked)
            self.assertEqual(asked, lines)

    def test_unlike_lengths_are_refused(self):
        for lines in (
            ["", "#"], ["#", ""], ["##", "#"], ["#", "##"], ["..", "..", "."], ["..", "..", "..."],
            ["..", ".", ".."], ["..", "...", ".."], ["."] * 59 + [""], ["."] * 59 + [".."],
        ):
            asked = list(lines)
            with self.assertRaises(NoSheet):
                undrawn(asked)
            self.assertEqual(asked, lines)

    def test_other_signs_are_refused(self):
        for sign in (" ", "x", "0", "1", "%", ",", "\n", "\t", "*", "o", "\u00b7", "\uff03", "\u2024"):
            for lines in (
                [sign], [sign + "#"], ["#" + sign], ["#.", "." + sign], [sign + ".", "##"],
                ["..", "." + sign, ".."], ["."] * 59 + [sign],
            ):
                asked = list(lines)
                with self.assertRaises(NoSheet):
                    undrawn(asked)
                self.assertEqual(asked, lines)

    def test_what_is_handed_in_stays(self):
        strip, lines = [1, 6, 0], ["#..", ".#.", ".#."]
        drawn(3, strip)
        undrawn(lines)
        self.assertEqual((strip, lines), ([1, 6, 0], ["#..", ".#.", ".#."]))

    def test_what_is_told_is_the_askers_own(self):
        for strip in ([], [1, 6, 0]):
            lines = drawn(3, strip)
            wanted = list(lines)
            back = undrawn(lines)
            lines.append("spoilt")
            back.append(99)
            self.assertEqual(drawn(3, strip), wanted)
            self.assertEqual(undrawn(wanted), strip)

    def test_what_was_handed_in_is_not_kept(self):
        strip = [1, 6, 0]
        lines = drawn(3, strip)
        strip[0] = 7
        self.assertEqual(lines, ["#..", ".#.", ".#."])
        back = undrawn(lines)
        lines[0] = "###"
        self.assertEqual(back, [1, 6, 0])


if __name__ == "__main__":
    unittest.main()
