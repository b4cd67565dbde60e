import unittest

from blotsure.desk import Desk
from blotsure.far import farness, mends
from blotsure.fonts import make_font
from blotsure.houses import takes
from blotsure.makers import book, both, free, padded, sums
from blotsure.near import nearest
from blotsure.notes import show_strip
from blotsure.setting import set_text
from blotsure.spread import spread
from helpers import NO_WHOLES, EqualToAll, assert_refused

NAMES = ("a", "z", "f", "font", "free", "abcdefgh", "zzzzzzzz", "takes", "none")
NO_NAMES = (
    "", "abcdefghi", "abcdefghij", "A", "aB", "Font", "f1", "1", "a-b", "a_b", "_", "a\n", "\na", "a\t", "\t", "\n",
    "\u00e9", "a\u00e9", "\u00df", "\u0131", "%", "a%", "a.", "f,", "`", "{", "@", "[", "f" * 400,
)
# Each row once, fit to be told to a desk that has the font f and the houses h and g.
EACH_ROW = (
    "font n 3 a:1", "free n ab", "book n a b", "sums n 2 ab", "both n h g", "pad n h -", "set f ab", "turn f 7,5 0,0",
    "takes h ab", "read f h 7,5", "spread f h 7,5", "far f h", "mends f h",
)
FONT = make_font(3, [("a", [7, 5]), ("b", [2, 2]), ("c", [2]), ("-", [0])])


def desk_with():
    """A desk with the font f, and the houses h (sums of a and b by 3) and g (free a, b, c)."""
    desk = Desk()
    for row in ("font f 3 a:7,5 b:2,2 c:2 -:0", "sums h 3 ab", "free g abc"):
        if desk.say(row) != "ok":
            raise AssertionError(row)
    return desk


def known(desk):
    """What a desk answers of what it has: whatever is changed there is seen by one of these."""
    answers = []
    for row in (
        "set f abc-", "set f a", "set n a", "set x a", "turn f - ", "takes h ab", "takes h ba", "takes h a",
        "takes g ac", "takes g ", "takes n ab", "takes n a", "takes x a", "read f h 7,5,2,2", "read f g 7,5,2",
        "spread f h 7,5,2,2", "far f h", "far f g", "far n h", "mends f g", "mends f n", "mends f h",
    ):
        try:
            answers.append(desk.say(row))
        except ValueError as refusal:
            answers.append(repr(refusal))
    return answers


class RowsTest(unittest.TestCase):
    def setUp(self):
        self.desk = desk_with()

    def assert_says(self, row, wanted):
        told = self.desk.say(row)
        self.assertEqual(told, wanted, row)
        self.assertIs(type(told), str)

    def test_each_row_is_answered(self):
        self.assertEqual(len(EACH_ROW), 13)
        for row in EACH_ROW:
            self.assertIs(type(self.desk.say(row)), str)

    def test_font(self):
        self.assert_says("font n 5 x:31 y:1,2,3,4,5,6,7,8", "ok")
        self.assert_says("set n xyx", "31,1,2,3,4,5,6,7,8,31")
        self.assert_says("font n 60 ::1152921504606846975 ,:0,1 -:2", "ok")
        self.assert_says("set n :,-", "1152921504606846975,0,1,2")
        self.assert_says("font n 1 b:0 a:1", "ok")
        self.assert_says("set n ab", "1,0")

    def test_free(self):
        self.assert_says("free n ab", "ok")
        self.assert_says("takes n abba", "yes")
        self.assert_says("takes n abc", "no")
        self.assert_says("free n ", "ok")
        self.assert_says("takes n ", "yes")
        self.assert_says("takes n a", "no")

    def test_book(self):
        self.assert_says("book n ab b", "ok")
        # Its name is none of its words.
        for text, wanted in (("ab", "yes"), ("b", "yes"), ("a", "no"), ("", "no"), ("abb", "no"), ("n", "no")):
            self.assert_says("takes n " + text, wanted)
        # No words at all; then one word without signs.
        self.assert_says("book n", "ok")
        self.assert_says("takes n ", "no")
        self.assert_says("book n ", "ok")
        self.assert_says("takes n ", "yes")
        self.assert_says("takes n a", "no")
        self.assert_says("book n a  a", "ok")
        self.assert_says("takes n ", "yes")
        self.assert_says("takes n a", "yes")

    def test_sums(self):
        self.assert_says("sums n 2 ab", "ok")
        for text, wanted in (("", "yes"), ("a", "no"), ("b", "yes"), ("aa", "yes"), ("ab", "no"), ("aba", "yes")):
            self.assert_says("takes n " + text, wanted)
        self.assert_says("sums n 40 ", "ok")
        self.assert_says("takes n ", "yes")

    def test_both(self):
        self.assert_says("book n ab aab b c", "ok")
        self.assert_says("both m n h", "ok")
        for text, wanted in (("ab", "yes"), ("aab", "no"), ("b", "no"), ("c", "no")):
            self.assert_says("takes m " + text, wanted)
        self.assert_says("both m h h", "ok")
        self.assert_says("takes m ab", "yes")

    def test_pad(self):
        self.assert_says("pad n h -", "ok")
        for text, wanted in (("ab", "yes"), ("ab--", "yes"), ("--", "yes"), ("a-", "no"), ("-ab", "no")):
            self.assert_says("takes n " + text, wanted)

    def test_set(self):
        self.assert_says("set f ab", "7,5,2,2")
        self.assert_says("set f c", "2")
        self.assert_says("set f ", "-")

    def test_turn(self):
        self.assert_says("turn f 7,5,2", "7,5,2")
        self.assert_says("turn f 7,5,2 0,0", "6,5,2")
        self.assert_says("turn f 7,5,2 0,0 2,2 1,1", "6,7,6")
        self.assert_says("turn f 7,5,2 0,0 0,0", "7,5,2")
        self.assert_says("turn f -", "-")
        many = " ".join(["0,0"] * 4001)
        self.assert_says("turn f 0 " + many, "1")

    def test_takes(self):
        self.assert_says("takes h ab", "yes")
        self.assert_says("takes h a", "no")
        self.assert_says("takes h ", "yes")
        self.assert_says("takes h xyz", "no")
        self.assert_says("takes h ab\n", "no")
        self.assert_says("takes h a\tb", "no")

    def test_read(self):
        self.assert_says("read f h 7,5,2,2", "0 1 ab")
        self.assert_says("read f h 6,5,2,6", "2 1 ab")
        self.assert_says("read f g 2,2", "0 2 b")
        self.assert_says("read f h 7", "none")
        # A blank at the end where the text has no signs.
        self.assert_says("read f h -", "0 1 ")
        self.desk.say("book n a")
        self.assert_says("read f n -", "none")

    def test_spread(self):
        self.assert_says("spread f h 6,5,2,6", "0,0,1,0,0,0,0,0,1")
        self.assert_says("spread f g 2,3", "0,2,0,0,1")
        self.assert_says("spread f h 7", "-")
        self.assert_says("spread f h -", "1")

    def test_far_and_mends(self):
        self.assert_says("far f h", "10")
        self.assert_says("mends f h", "4")
        # b and cc have the same picture.
        self.assert_says("far f g", "0")
        self.assert_says("mends f g", "-1")
        self.desk.say("book n a")
        self.assert_says("far f n", "none")
        self.assert_says("mends f n", "any")
        self.desk.say("font n 3 a:0 b:1")
        self.desk.say("free n ab")
        self.assert_says("far n n", "1")
        self.assert_says("mends n n", "0")

    def test_the_same_as_the_modules_tell(self):
        desk = self.desk
        desk.say("book w ab ba  cab")
        desk.say("pad p w -")
        desk.say("both q h g")
        houses = {
            "h": sums("ab", 3), "g": free("abc"), "w": book(["ab", "ba", "", "cab"]),
            "p": padded(book(["ab", "ba", "", "cab"]), "-"), "q": both(sums("ab", 3), free("abc")),
        }
        for name, house in houses.items():
            told = farness(FONT, house)
            self.assert_says(f"far f {name}", "none" if told is None else str(told[0]))
            told = mends(FONT, house)
            self.assert_says(f"mends f {name}", "any" if told is None else str(told))
            for text in ("", "ab", "ba", "cab", "ab--", "abab", "c"):
                self.assert_says(f"takes {name} {text}", "yes" if takes(house, text) else "no")
                strip = set_text(FONT, text)
                self.assert_says(f"set f {text}", show_strip(strip))
                self.assert_says(f"spread f {name} {show_strip(strip)}", show_strip(spread(FONT, house, strip)))
                told = nearest(FONT, house, strip)
                wanted = "none" if told is None else f"{told[1]} {told[2]} {told[0]}"
                self.assert_says(f"read f {name} {show_strip(strip)}", wanted)

    def test_numbers_of_many_figures(self):
        signs = "ABCDEFGHIJKLMNOPQRSTUVWXYZabcdefghijklmn"
        self.desk.say("font n 1 " + " ".join(sign + ":0" for sign in signs))
        self.desk.say("free n " + signs)
        strip = ",".join(["0"] * 400)
        self.assert_says(f"spread n n {strip}", str(40 ** 400))
        self.assert_says(f"read n n {strip}", f"0 {40 ** 400} " + "A" * 400)


class NamesTest(unittest.TestCase):
    def setUp(self):
        self.desk = desk_with()

    def test_names_of_one_to_eight_small_letters(self):
        for name in NAMES:
            self.assertEqual(self.desk.say(f"font {name} 1 a:1"), "ok")
            self.assertEqual(self.desk.say(f"free {name} a"), "ok")
            self.assertEqual(self.desk.say(f"set {name} a"), "1")
            self.assertEqual(self.desk.say(f"takes {name} a"), "yes")

    def test_names_that_are_none(self):
        for name in NO_NAMES:
            for row in (
                f"font {name} 1 a:1", f"free {name} a", f"book {name}", f"book {name} a", f"sums {name} 2 a",
                f"both {name} h g", f"pad {name} h -", f"set {name} a", f"turn {name} -", f"takes {name} a",
                f"read {name} h -", f"read f {name} -", f"spread {name} h -", f"spread f {name} -", f"far {name} h",
                f"far f {name}", f"mends {name} h", f"mends f {name}", f"both n {name} g", f"both n h {name}",
                f"pad n {name} -",
            ):
                assert_refused(self, "NoName", self.desk.say, row)

    def test_names_by_which_nothing_of_the_kind_stands(self):
        # f is a font and no house, h a house and no font.
        for row in (
            "set x a", "set h a", "turn h -", "turn x -", "takes f a", "takes x a", "read h h -", "read f f -",
            "read x h -", "read f x -", "spread h h -", "spread f f -", "far h h", "far f f", "mends h h",
            "mends f f", "both n f g", "both n h f", "both n n h", "both n h n", "pad n f -", "pad n n -", "set ff a",
            "takes hh a",
        ):
            assert_refused(self, "NoName", self.desk.say, row)

    def test_each_kind_by_itself(self):
        self.assertEqual(self.desk.say("font h 1 a:1"), "ok")
        self.assertEqual(self.desk.say("free f a"), "ok")
        self.assertEqual(self.desk.say("set h a"), "1")
        self.assertEqual(self.desk.say("set f a"), "7,5")
        self.assertEqual(self.desk.say("takes f a"), "yes")
        self.assertEqual(self.desk.say("takes h a"), "no")

    def test_told_anew(self):
        self.assertEqual(self.desk.say("font f 3 a:1"), "ok")
        self.assertEqual(self.desk.say("set f a"), "1")
        assert_refused(self, "NoSign", self.desk.say, "set f b")
        self.assertEqual(self.desk.say("book h x"), "ok")
        self.assertEqual(self.desk.say("takes h x"), "yes")
        self.assertEqual(self.desk.say("takes h ab"), "no")

    def test_what_was_made_of_the_elder_one_stays(self):
        self.desk.say("both m h g")
        self.desk.say("pad p h -")
        self.desk.say("book h c")
        self.desk.say("free g ")
        self.assertEqual(self.desk.say("takes h ab"), "no")
        self.assertEqual(self.desk.say("takes m ab"), "yes")
        self.assertEqual(self.desk.say("takes p ab--"), "yes")
        self.assertEqual(self.desk.say("takes p c"), "no")

    def test_told_anew_out_of_itself(self):
        self.assertEqual(self.desk.say("both h h g"), "ok")
        self.assertEqual(self.desk.say("takes h ab"), "yes")
        self.assertEqual(self.desk.say("pad h h -"), "ok")
        self.assertEqual(self.desk.say("takes h ab-"), "yes")
        assert_refused(self, "NoHouse", self.desk.say, "pad h h -")
        self.assertEqual(self.desk.say("takes h ab-"), "yes")

    def test_each_desk_keeps_its_own(self):
        other = Desk()
        for row in ("set f a", "takes h ab", "far f h"):
            assert_refused(self, "NoName", other.say, row)
        self.assertEqual(other.say("font f 1 a:1"), "ok")
        self.assertEqual(other.say("set f a"), "1")
        self.assertEqual(self.desk.say("set f a"), "7,5")


class RefusalsTest(unittest.TestCase):
    def setUp(self):
        self.desk = desk_with()
        self.before = known(self.desk)

    def assert_all_refused(self, name, rows):
        for row in rows:
            assert_refused(self, name, self.desk.say, row)
        self.assertEqual(known(self.desk), self.before)

    def test_what_is_no_text(self):
        for thing in NO_WHOLES:
            if not isinstance(thing, str):
                assert_refused(self, "NoRow", self.desk.say, thing)
        self.assert_all_refused("NoRow", (
            0, 1, -1, 10 ** 699, ["set", "f", "a"], ("far", "f", "h"), b"far f h", EqualToAll(),
        ))

    def test_rows_that_do_not_begin_as_one(self):
        self.assert_all_refused("NoRow", (
            "", " ", "  ", "f", "fonts f 3 a:1", "Font f 3 a:1", "FAR f h", "fa f h", "farr f h", " far f h",
            "  far f h", "far\tf h", "far\nf h", "\nfar f h", "\tfar f h", "far\n f h", "quit", "help",
            "within f h -", "seams f a", "f far h", "%", "-", "far,f,h", "tail h a", "say", "\u00e9",
        ))

    def test_words_too_few(self):
        for row in EACH_ROW:
            words = row.split(" ")
            fewest = 2 if words[0] == "book" else 3 if words[0] == "turn" else len(words)
            for many in range(1, fewest):
                self.assert_all_refused("NoRow", (" ".join(words[:many]),))

    def test_words_too_many(self):
        for row in EACH_ROW:
            if row.split(" ")[0] not in ("font", "book", "turn"):
                for more in (" ", " x", "  ", " a b", " x "):
                    self.assert_all_refused("NoRow", (row + more,))

    def test_two_blanks_and_blanks_at_the_begin_and_at_the_end(self):
        self.assert_all_refused("NoRow", (
            "far  f h", "far f  h", "far f h ", " far f h", "mends f h  ", "set  f a", "set f a ", "set f  a",
            "takes h ab ", "free n  ab", "sums n  2 ab", "sums n 2  ab", "both n h g ", "read f h - ",
        ))
        # The number of words is right, but one of them has no signs.
        self.assert_all_refused("NoName", (
            "far f ", "far  h", "mends f ", "set  a", "takes  ", "free  ", "book ", "book  ",
        ))
        self.assert_all_refused("NoNote", (
            "read f h ", "spread f h ", "turn f ", "turn f  0,0", "turn f 7,5 ", "turn f 7,5 0,0 ", "turn f 7,5  0,0",
            "font n 3 ", "font n  a:1", "font n 3 a:1 ", "font n 3  a:1", "sums n  ab",
        ))

    def test_numbers_letters_strips_and_spots_that_are_not_written_so(self):
        wrong = ("", "01", "-1", "+1", "x", "1.0", "1" * 21, "\u0661", "1\n", "\t1", "1_0")
        for number in wrong:
            self.assert_all_refused("NoNote", (f"font n {number} a:1", f"sums n {number} ab",
            f"turn f 7 0,{number}",
                                               f"turn f 7 {number},0", f"font n 3 a:{number}",
                                               f"read f h 7,{number}"))
        self.assert_all_refused("NoNote", (
            "font n 3 a", "font n 3 a:1 b", "font n 3 ab:1", "font n 3 a:1,", "font n 3 %:1", "font n 3 a:1 \n:1",
            "font n 3 a:1152921504606846976", "read f h 8", "read f h 7,8", "read f h --", "read f h 7,",
            "spread f h 8", "turn f 8", "turn f 8 0,0", "turn f 7 0", "turn f 7 0,0,0", "turn f 7 -",
            "turn f 7 0,0 x", "read f h 7;5",
        ))

    def test_what_the_stages_refuse(self):
        self.assert_all_refused("NoFont", (
            "font n 0 a:0", "font n 61 a:1", "font n 3 a:8", "font n 3 a:-", "font n 3 a:1 a:2", "font n 1 a:1 b:2",
            "font n 3 a:1,1,1,1,1,1,1,1,1", "font n 99999999999999999999 a:1",
            "font n 3 " + " ".join(sign + ":1" for sign in "ABCDEFGHIJKLMNOPQRSTUVWXYZabcdefghijklmno"),
        ))
        self.assert_all_refused("NoHouse", (
            "free n aa", "free n a%", "free n a\n", "free n \t", "free n \u00e9", "sums n 0 ab", "sums n 41 ab",
            "sums n 2 aa", "sums n 99999999999999999999 a", "sums n 2 %", "book n " + "a" * 40, "book n a\n",
            "book n %", "pad n h a", "pad n h ", "pad n h --", "pad n h %", "pad n h \n",
        ))
        self.assert_all_refused("NoSign", ("set f q", "set f abq", "set f a\n", "set f \t", "set f %"))
        self.assert_all_refused("OffStrip", (
            "turn f 7 1,0", "turn f 7 0,3", "turn f - 0,0", "turn f 7 0,0 0,60", "turn f 7 99999999999999999999,0",
        ))

    def test_houses_of_too_many_rooms(self):
        self.desk.say("sums n 8 ab")
        self.desk.say("sums m 7 ba")
        self.before = known(self.desk)
        self.assert_all_refused("NoHouse", ("both n n m",))
        self.desk.say("sums n 40 ab")
        self.before = known(self.desk)
        self.assert_all_refused("NoHouse", ("pad n n -",))

    def test_the_order_of_the_refusals(self):
        # The row ahead of its words.
        self.assert_all_refused("NoRow", (
            "far X x x", "sums X x", "set X", "fonts X x x", "both X x", "turn X", "font X x", "read x x",
            "takes X q q",
        ))
        # Word by word from the left.
        self.assert_all_refused("NoName", (
            "font X 01 a", "font F 3 a:9", "sums X 01 aa", "sums X 0 aa", "both X x x", "both n x Y", "pad X x a",
            "pad n x a", "turn x 8 y", "turn x 9 9,9", "read x h 8", "read f x 8", "spread f x 8", "set x q",
            "free X aa", "book X %", "read x x x", "mends x h", "far f x",
        ))
        self.assert_all_refused("NoNote", (
            "font n 01 a", "font n 0 a", "font n 61 a:1 b", "font n 3 a:9 a:9 b", "sums n 00 aa", "turn f 8 9,9",
            "turn f 7 9,9 x", "turn f 7 0,9 01,0",
        ))
        # Then what the stages refuse.
        self.assert_all_refused("NoFont", ("font n 0 a:1", "font n 3 a:8 b:9"))
        self.assert_all_refused("NoHouse", ("sums n 0 aa",))

    def test_a_row_that_told_a_name_anew_changes_nothing(self):
        self.assert_all_refused("NoFont", ("font f 3 a:8", "font f 0 a:1", "font f 3 a:1 a:1"))
        self.assert_all_refused("NoNote", ("font f x a:1", "font f 3 a:1 b", "sums h x ab"))
        self.assert_all_refused("NoHouse", (
            "free h aa", "book h " + "a" * 40, "sums h 0 ab", "sums h 41 ab", "pad h h a", "pad g h b", "free g %",
        ))
        self.assert_all_refused("NoName", ("both h h x", "both h x h", "pad h x -", "both g f h"))
        self.assert_all_refused("NoRow", ("font f 3", "free h", "sums h 3", "both h h", "pad h h", "free h a b"))

    def test_refused_rows_leave_a_name_untold(self):
        for row in ("font n 3 a:8", "free n aa", "sums n 0 a", "pad n h a", "both n h x"):
            with self.assertRaises(ValueError):
                self.desk.say(row)
        for row in ("set n a", "takes n a", "far n h", "far f n"):
            assert_refused(self, "NoName", self.desk.say, row)

    def test_rows_of_many_signs(self):
        self.assert_all_refused("NoRow", ("x" * 20000, " " * 20000, "far " * 5000))
        self.assert_all_refused("NoNote", ("turn f " + "7," * 9990, "font n 3 a:" + "1" * 19000))
        self.assertEqual(self.desk.say("book n " + " ".join(["ab"] * 6000)), "ok")
        self.assertEqual(self.desk.say("takes n ab"), "yes")


if __name__ == "__main__":
    unittest.main()
