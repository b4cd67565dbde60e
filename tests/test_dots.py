import unittest

from blotsure.dots import apart, column_of, inked, is_column, is_height, is_sign, is_whole, lines_of

ALL_SIXTY = 2 ** 60 - 1
VERY_FAR = 10 ** 699

WHOLES = (0, 1, -1, 2, 59, 60, 61, -60, 2 ** 60, -(2 ** 60), 2 ** 64, VERY_FAR, -VERY_FAR)
NO_WHOLES = (
    True, False, None, "", "a", "1", "ab", "60", "%", "\n", "\t", "a longer text", (), (1,), (1, 2),
    [], [1], ["a"], {}, {1: 2}, {"a": 1}, 1.0, 60.0, 0.5, float("nan"), b"a", {1}, object(), int, len,
)

COLUMNS = (
    0, 1, 2, 3, 5, 6, 0b1011, 0b10100, 2 ** 30, 2 ** 31 + 1, 2 ** 59, 2 ** 59 + 1, 2 ** 53 + 1,
    2 ** 60 - 2, ALL_SIXTY, 0x0AAAAAAAAAAAAAAA, 0x0555555555555555, 0x0123456789ABCDEF,
)


def dots_by_text(column):
    return format(column, "b").count("1")


def lines_by_text(column):
    return [line for line, bit in enumerate(reversed(format(column, "b"))) if bit == "1"]


class ToldApartTest(unittest.TestCase):
    """Each answer is True or False itself, not something like it: hence assertIs."""

    def test_is_whole_of_numbers(self):
        for thing in WHOLES:
            self.assertIs(is_whole(thing), True, thing)

    def test_is_whole_of_anything_else(self):
        for thing in NO_WHOLES:
            self.assertIs(is_whole(thing), False, thing)

    def test_is_height_at_its_edges(self):
        for thing in (1, 2, 30, 59, 60):
            self.assertIs(is_height(thing), True, thing)
        for thing in (0, -1, -60, 61, 62, VERY_FAR, -VERY_FAR):
            self.assertIs(is_height(thing), False, thing)

    def test_is_height_of_anything_else(self):
        for thing in NO_WHOLES:
            self.assertIs(is_height(thing), False, thing)

    def test_is_sign_of_each_single_sign(self):
        allowed = (
            " !\"#$&'()*+,-./0123456789:;<=>?@ABCDEFGHIJKLMNOPQRSTUVWXYZ"
            "[\\]^_`abcdefghijklmnopqrstuvwxyz{|}~"
        )
        self.assertEqual(len(allowed), 94)
        for code in range(0x3100):
            self.assertIs(is_sign(chr(code)), chr(code) in allowed, code)

    def test_is_sign_of_texts_of_other_lengths(self):
        for thing in ("", "ab", "aa", "  ", "a ", " a", "%%", "a%", "\n\n", "a\n", "abc", "a" * 400):
            self.assertIs(is_sign(thing), False, thing)

    def test_is_sign_of_anything_else(self):
        others = [thing for thing in NO_WHOLES + WHOLES if not isinstance(thing, str)]
        for thing in others + [("a",), ["a", "b"], {"a": "a"}, ("a", "b")]:
            self.assertIs(is_sign(thing), False, thing)

    def test_is_column_at_the_edges_of_each_height(self):
        for height in range(1, 61):
            for thing in (0, 1, 2 ** height - 1, 2 ** (height - 1)):
                self.assertIs(is_column(height, thing), True, (height, thing))
            for thing in (-1, 2 ** height, 2 ** height + 1, 1 - 2 ** height, -(2 ** height)):
                self.assertIs(is_column(height, thing), False, (height, thing))

    def test_is_column_of_every_number_near_a_small_height(self):
        self.assertEqual([thing for thing in range(-40, 40) if is_column(3, thing)], list(range(8)))

    def test_is_column_of_anything_else(self):
        for height in (1, 5, 60):
            for thing in NO_WHOLES + (VERY_FAR, -VERY_FAR):
                self.assertIs(is_column(height, thing), False, (height, thing))

    def test_lists_and_dicts_asked_about_stay(self):
        things = [["a", 1], {"a": [1]}]
        for thing in things:
            is_whole(thing), is_height(thing), is_sign(thing), is_column(5, thing)
        self.assertEqual(things, [["a", 1], {"a": [1]}])


class ColumnTest(unittest.TestCase):
    def test_inked(self):
        self.assertEqual(inked(0), 0)
        self.assertEqual(inked(0b1011), 3)
        self.assertEqual(inked(2 ** 59), 1)
        self.assertEqual(inked(ALL_SIXTY), 60)

    def test_inked_counts_each_dot(self):
        for column in COLUMNS + tuple(range(300)):
            self.assertEqual(inked(column), dots_by_text(column), column)

    def test_lines_of(self):
        self.assertEqual(lines_of(0), [])
        self.assertEqual(lines_of(1), [0])
        self.assertEqual(lines_of(0b1011), [0, 1, 3])
        self.assertEqual(lines_of(2 ** 59), [59])
        self.assertEqual(lines_of(ALL_SIXTY), list(range(60)))

    def test_lines_of_each_dot_rising(self):
        for column in COLUMNS + tuple(range(300)):
            self.assertEqual(lines_of(column), lines_by_text(column), column)

    def test_lines_of_is_the_askers_own(self):
        for column in (0, 5, ALL_SIXTY):
            first = lines_of(column)
            wanted = list(first)
            first.append(99)
            self.assertEqual(lines_of(column), wanted)
            self.assertIsNot(lines_of(column), lines_of(column))

    def test_column_of(self):
        self.assertEqual(column_of([]), 0)
        self.assertEqual(column_of([0]), 1)
        self.assertEqual(column_of([59]), 2 ** 59)
        self.assertEqual(column_of([0, 1, 3]), 0b1011)
        self.assertEqual(column_of(list(range(60))), ALL_SIXTY)

    def test_column_of_lines_in_any_order(self):
        self.assertEqual(column_of([3, 0, 1]), 0b1011)
        self.assertEqual(column_of([59, 0]), 2 ** 59 + 1)
        self.assertEqual(column_of(list(reversed(range(60)))), ALL_SIXTY)

    def test_column_of_lines_told_twice_or_oftener(self):
        self.assertEqual(column_of([2, 2]), 4)
        self.assertEqual(column_of([2, 0, 2]), 5)
        self.assertEqual(column_of([59, 59, 59, 1]), 2 ** 59 + 2)
        self.assertEqual(column_of(list(range(60)) + list(range(60))), ALL_SIXTY)

    def test_column_of_leaves_its_list(self):
        lines = [59, 3, 0, 3]
        column_of(lines)
        self.assertEqual(lines, [59, 3, 0, 3])

    def test_column_of_keeps_nothing(self):
        lines = [1]
        column_of(lines)
        lines.append(4)
        self.assertEqual(column_of(lines), 0b10010)
        self.assertEqual(column_of([]), 0)

    def test_lines_there_and_back(self):
        for column in COLUMNS:
            self.assertEqual(column_of(lines_of(column)), column)

    def test_apart(self):
        self.assertEqual(apart(0, 0), 0)
        self.assertEqual(apart(0, 2 ** 59), 1)
        self.assertEqual(apart(2 ** 59, 1), 2)
        self.assertEqual(apart(0b1100, 0b1010), 2)
        self.assertEqual(apart(0, ALL_SIXTY), 60)
        self.assertEqual(apart(ALL_SIXTY, ALL_SIXTY), 0)

    def test_apart_counts_the_lines_of_just_one(self):
        for one in COLUMNS:
            for other in COLUMNS:
                wanted = len(set(lines_by_text(one)) ^ set(lines_by_text(other)))
                self.assertEqual(apart(one, other), wanted, (one, other))


if __name__ == "__main__":
    unittest.main()
