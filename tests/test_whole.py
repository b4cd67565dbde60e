"""What is promised over the whole program: its interface, what it leaves alone, and that spoilt texts are read back."""

import copy
import importlib
import inspect
import itertools
import unittest

from blotsure.desk import Desk
from blotsure.far import far_paper, farness, mends
from blotsure.fonts import make_font
from blotsure.half import halfway
from blotsure.makers import book, both, free, padded, sums
from blotsure.near import near_paper, nearest
from blotsure.notes import show_strip
from blotsure.pages import broken, page, page_mends, read_page
from blotsure.setting import set_text
from blotsure.sheets import sheet, strips_of
from blotsure.strips import gap, turned
from far_cases import EVEN, MANY, allowed_by_width
from helpers import Draw

INTERFACE = {
    "dots": {
        "is_whole": ["thing"], "is_height": ["thing"], "is_sign": ["thing"], "is_column": ["height", "thing"],
        "inked": ["column"], "lines_of": ["column"], "column_of": ["lines"], "apart": ["one", "other"],
    },
    "strips": {
        "gap": ["one", "other"], "spots_apart": ["one", "other"], "turned": ["height", "strip", "spots"],
        "drawn": ["height", "strip"], "undrawn": ["lines"],
    },
    "fonts": {"make_font": ["height", "letters"], "signs_of": ["font"], "columns_of": ["font", "sign"]},
    "setting": {"set_text": ["font", "text"], "breadth": ["font", "text"], "seams": ["font", "text"]},
    "houses": {"make_house": ["doors", "ends"], "goes": ["house", "text"], "takes": ["house", "text"]},
    "makers": {
        "free": ["signs"], "book": ["words"], "sums": ["signs", "many", "wheel"], "both": ["one", "other"],
        "padded": ["house", "filler"],
    },
    "tails": {"depths": ["house"], "tail": ["house", "text"]},
    "near": {"near_paper": ["font", "house", "strip"], "nearest": ["font", "house", "strip"]},
    "nearlook": {"near_holds": ["font", "house", "strip", "paper"]},
    "within": {"within": ["font", "house", "strip", "far", "most"]},
    "spread": {"spread": ["font", "house", "strip"], "counted": ["font", "house", "wide"]},
    "stands": {"begins": ["font", "house"], "steps": ["font", "house", "stand"], "stands": ["font", "house"]},
    "far": {"far_paper": ["font", "house"], "farness": ["font", "house"], "mends": ["font", "house"]},
    "farlook": {"far_holds": ["font", "house", "paper"]},
    "half": {"halfway": ["font", "one", "other"]},
    "guards": {"guards": ["font", "signs", "wish", "most"]},
    "pages": {
        "broken": ["font", "text", "wide"], "page": ["font", "house", "filler", "rows", "wide"],
        "read_page": ["font", "house", "filler", "strips"], "page_mends": ["font", "house", "filler"],
    },
    "sheets": {"sheet": ["height", "strips"], "strips_of": ["height", "lines"]},
    "notes": {
        "read_number": ["text"], "show_strip": ["strip"], "read_strip": ["height", "text"], "read_spot": ["text"],
        "read_letter": ["text"],
    },
}

FONT = make_font(3, [("a", [7, 5]), ("b", [2, 2]), ("c", [2]), ("-", [0]), (" ", [1])])
HOUSE = sums("abc", 3)

# Each function of the interface, with things to hand in.
CALLS = {
    "is_whole": [[1]], "is_height": [[1]], "is_sign": [["a"]], "is_column": [3, [1]], "inked": [5], "lines_of": [5],
    "column_of": [[0, 2, 0]], "apart": [5, 6], "gap": [[1, 2], [3, 4]], "spots_apart": [[1, 2], [3, 4]],
    "turned": [3, [1, 2], [(0, 1), (1, 2)]], "drawn": [3, [1, 2]], "undrawn": [["#.", ".#"]],
    "make_font": [3, [("b", [1, 2]), ("a", [3])]], "signs_of": [FONT], "columns_of": [FONT, "a"],
    "set_text": [FONT, "abc"], "breadth": [FONT, "abc"], "seams": [FONT, "abc"],
    "make_house": [[[("b", 1), ("a", 0)], []], [1, 0]], "goes": [HOUSE, "ab"], "takes": [HOUSE, "ab"],
    "free": ["ab"], "book": [["ab", "b"]], "sums": ["ab", 2, (1, 2)], "both": [HOUSE, free("ab")],
    "padded": [HOUSE, "-"], "depths": [HOUSE], "tail": [HOUSE, "a"], "near_paper": [FONT, HOUSE, [1, 2, 3]],
    "nearest": [FONT, HOUSE, [1, 2, 3]], "near_holds": [FONT, HOUSE, [1, 2], near_paper(FONT, HOUSE, [1, 2])],
    "within": [FONT, HOUSE, [1, 2, 3], 9, 9], "spread": [FONT, HOUSE, [1, 2, 3]], "counted": [FONT, HOUSE, 9],
    "begins": [FONT, HOUSE], "steps": [FONT, HOUSE, (0, 1, (1, 2))], "stands": [FONT, HOUSE],
    "far_paper": [FONT, HOUSE], "farness": [FONT, HOUSE], "mends": [FONT, HOUSE],
    "far_holds": [FONT, HOUSE, far_paper(FONT, HOUSE)], "halfway": [FONT, "a", "b"], "guards": [FONT, "ab", 9, 3],
    "broken": [FONT, "ab c cc", 5], "page": [FONT, HOUSE, "-", ["ab", "ab", "", ""], 7],
    "read_page": [FONT, HOUSE, "-", [[1, 2, 3], [1, 2, 3]]], "page_mends": [FONT, HOUSE, "-"],
    "sheet": [3, [[1, 2], [1, 2]]], "strips_of": [2, ["#.", "#.", "#.", "#."]], "read_number": ["7"],
    "show_strip": [[1, 2]], "read_strip": [3, "1,2"], "read_spot": ["1,2"], "read_letter": ["a:1,2"],
}


def functions():
    for module, names in INTERFACE.items():
        for name in names:
            yield name, getattr(importlib.import_module("blotsure." + module), name)


def lists_in(thing):
    """All lists in it, itself too, however deep."""
    found = [thing] if isinstance(thing, list) else []
    if isinstance(thing, (list, tuple)):
        for part in thing:
            found.extend(lists_in(part))
    return found


class InterfaceTest(unittest.TestCase):
    def test_all_is_there_under_its_name_with_its_arguments(self):
        for module, names in INTERFACE.items():
            for name, arguments in names.items():
                there = getattr(importlib.import_module("blotsure." + module), name)
                told = inspect.signature(there).parameters
                self.assertEqual(list(told), arguments, name)
                for argument in arguments:
                    wanted = None if argument == "wheel" else inspect.Parameter.empty
                    self.assertIs(told[argument].default, wanted, name)

    def test_arguments_by_name(self):
        for name, there in functions():
            arguments = list(inspect.signature(there).parameters)
            by_name = dict(zip(arguments, copy.deepcopy(CALLS[name])))
            self.assertEqual(there(**by_name), there(*CALLS[name]))

    def test_the_desk(self):
        self.assertEqual(list(inspect.signature(Desk).parameters), [])
        self.assertEqual(list(inspect.signature(Desk().say).parameters), ["row"])
        self.assertEqual(Desk().say(row="free n a"), "ok")


class LeftAloneTest(unittest.TestCase):
    def test_nothing_that_is_handed_in_is_changed(self):
        for name, there in functions():
            things = copy.deepcopy(CALLS[name])
            there(*things)
            self.assertEqual(things, CALLS[name], name)

    def test_every_list_is_a_new_one_and_no_two_are_one(self):
        for name, there in functions():
            things = copy.deepcopy(CALLS[name])
            told = [there(*things) for _ in range(3)]
            every = lists_in(told) + lists_in(things)
            self.assertEqual(len({id(one) for one in every}), len(every), name)

    def test_what_is_handed_in_may_be_changed_behind(self):
        for name, there in functions():
            things = copy.deepcopy(CALLS[name])
            told = there(*things)
            wanted = copy.deepcopy(told)
            for one in lists_in(things):
                one.clear()
            self.assertEqual(told, wanted, name)
            self.assertEqual(there(*copy.deepcopy(CALLS[name])), wanted, name)

    def test_what_is_told_may_be_changed(self):
        for name, there in functions():
            told = there(*copy.deepcopy(CALLS[name]))
            wanted = copy.deepcopy(told)
            for one in lists_in(told):
                one.clear()
            self.assertEqual(there(*copy.deepcopy(CALLS[name])), wanted, name)


def choices(font, wide, most):
    """All ways to choose at most so many spots."""
    spots = [(x, y) for x in range(wide) for y in range(font[0])]
    for many in range(min(most, len(spots)) + 1):
        yield from itertools.combinations(spots, many)


class MendedTest(unittest.TestCase):
    def test_whatever_dots_are_turned_over(self):
        looked = 0
        for font, house, widest in (
            (EVEN, sums("ab", 2), 4), (EVEN, sums("abcd", 2), 4), (EVEN, padded(book(["ab", "c"]), "d"), 2),
            (make_font(2, [("a", [3, 3]), ("b", [0, 0]), ("c", [0])]), both(sums("ab", 2), sums("ba", 3)), 6),
        ):
            told = mends(font, house)
            for texts in allowed_by_width(font, house, widest):
                for text, picture in texts:
                    for chosen in choices(font, len(picture), 99 if told is None else told):
                        looked += 1
                        strip = turned(font[0], picture, list(chosen))
                        self.assertEqual(nearest(font, house, strip), (text, len(chosen), 1))
        self.assertGreater(looked, 3000)

    def test_no_greater_number_would_do(self):
        for font, house in MANY:
            told = farness(font, house)
            if told is not None:
                far, one, other = told
                strip = halfway(font, one, other)
                self.assertEqual(gap(strip, set_text(font, one)), (far + 1) // 2)
                self.assertEqual((far + 1) // 2, mends(font, house) + 1)
                self.assertLessEqual(gap(strip, set_text(font, other)), gap(strip, set_text(font, one)))

    def test_by_rows_of_a_desk(self):
        desk = Desk()
        for row in (
            "font wide 5 a:31,0,31 b:0,31,0 c:21,10,21 -:0", "sums even 2 abc", "book few abc bca cab a b",
            "pad rows few -", "free lone c", "both two even few",
        ):
            self.assertEqual(desk.say(row), "ok")
        draw = Draw(127)
        looked = 0
        for house, texts in (
            ("even", ("", "b", "ac", "aba", "bbbb", "abcabc")), ("few", ("abc", "bca", "cab", "a", "b")),
            ("rows", ("abc", "a--", "b------", "cab-")), ("lone", ("", "c", "cccc")), ("two", ("b", "cab", "abc")),
        ):
            told = desk.say(f"mends wide {house}")
            for text in texts:
                self.assertEqual(desk.say(f"takes {house} {text}"), "yes")
                strip = desk.say(f"set wide {text}")
                wide = 0 if strip == "-" else strip.count(",") + 1
                spots = [f"{x},{y}" for x in range(wide) for y in range(5)]
                most = len(spots) if told == "any" else min(len(spots), int(told))
                for many in range(most + 1):
                    chosen = draw.shuffled(spots)[:many]
                    spoilt = desk.say(" ".join(["turn", "wide", strip] + chosen))
                    self.assertEqual(desk.say(f"read wide {house} {spoilt}"), f"{many} 1 {text}")
                    looked += 1
        self.assertGreater(looked, 60)

    def test_by_rows_of_a_desk_one_dot_too_many(self):
        desk = Desk()
        desk.say("font f 3 a:7,5 b:2")
        desk.say("sums h 2 ab")
        font, house = make_font(3, [("a", [7, 5]), ("b", [2])]), sums("ab", 2)
        far, one, other = farness(font, house)
        self.assertEqual(desk.say("far f h"), str(far))
        self.assertEqual(desk.say("mends f h"), str((far - 1) // 2))
        told = desk.say("read f h " + show_strip(halfway(font, one, other)))
        self.assertNotEqual(told, f"{(far + 1) // 2} 1 {one}")

    def test_by_pages(self):
        font = make_font(5, [("a", [31, 0, 31]), ("b", [0, 31, 0]), ("c", [21, 10, 21]), (" ", [0, 0]), ("-", [4])])
        text = "ab c abba cab b a bca abc c"
        rows = broken(font, text, 24)
        self.assertEqual(" ".join(rows), text)
        house = book(rows)
        told = page_mends(font, house, "-")
        self.assertGreater(told, 1)
        strips = page(font, house, "-", rows, 24)
        draw = Draw(131)
        spots = [(x, y) for x in range(24) for y in range(5)]
        for many in range(told + 1):
            spoilt = [turned(5, strip, draw.shuffled(spots)[:many]) for strip in strips]
            drawn_sheet = sheet(5, spoilt)
            self.assertEqual(len(drawn_sheet), 5 * len(rows))
            again = strips_of(5, drawn_sheet)
            self.assertEqual(again, spoilt)
            self.assertEqual(read_page(font, house, "-", again), [(row, many, 1) for row in rows])

    def test_by_pages_of_a_sums_house(self):
        font = make_font(3, [("a", [7, 0]), ("b", [0, 7]), ("c", [7, 7]), ("-", [0])])
        house = sums("abc", 2)
        told = page_mends(font, house, "-")
        self.assertEqual(told, 1)
        rows = ["", "b", "aa", "ac", "ca", "bb", "aba", "cbc"]
        strips = page(font, house, "-", rows, 8)
        for row, strip in zip(rows, strips):
            for chosen in choices(font, 8, told):
                spoilt = turned(3, strip, list(chosen))
                self.assertEqual(read_page(font, house, "-", [spoilt]), [(row, len(chosen), 1)])


if __name__ == "__main__":
    unittest.main()
