import copy
import itertools
import unittest

from blotsure.houses import goes, make_house, takes
from blotsure.makers import book, both, free, padded, sums
from helpers import NO_SIGNS, NO_WHOLES, VERY_FAR, Draw, assert_all_tuples, assert_refused

SIGNS = " !\"#$&'()*+,-./0123456789:;<=>?@ABCDEFGHIJKLMNOPQRSTUVWXYZ[\\]^_`abcdefghijklmnopqrstuvwxyz{|}~"


def short_texts(signs, most):
    for many in range(most + 1):
        for text in itertools.product(signs, repeat=many):
            yield "".join(text)


class FreeTest(unittest.TestCase):
    def test_no_signs(self):
        self.assertEqual(free(""), (((),), (0,)))

    def test_one_sign(self):
        self.assertEqual(free("a"), (((("a", 0),),), (0,)))

    def test_many_in_any_order(self):
        for text in ("abc", "cba", "bca"):
            self.assertEqual(free(text), (((("a", 0), ("b", 0), ("c", 0)),), (0,)))
        draw = Draw(11)
        everything = free("".join(draw.shuffled(SIGNS)))
        self.assertEqual(everything, ((tuple((sign, 0) for sign in SIGNS),), (0,)))
        assert_all_tuples(self, everything)

    def test_it_takes_the_texts_of_its_signs(self):
        for text in short_texts("abc", 4):
            self.assertIs(takes(free("ba"), text), "c" not in text)

    def test_a_sign_twice(self):
        for text in ("aa", "aba", "abb", "  ", SIGNS + "a"):
            assert_refused(self, "NoHouse", free, text)


class BookTest(unittest.TestCase):
    def test_no_words(self):
        self.assertEqual(book([]), (((),), ()))

    def test_the_word_without_signs(self):
        self.assertEqual(book([""]), (((),), (0,)))
        self.assertEqual(book(["", ""]), (((),), (0,)))
        self.assertEqual(book(["a", ""]), (((("a", 1),), ()), (0, 1)))

    def test_one_word(self):
        self.assertEqual(book(["ab"]), (((("a", 1),), (("b", 2),), ()), (2,)))

    def test_words_alike(self):
        self.assertEqual(book(["ab", "ab", "ab"]), book(["ab"]))
        self.assertEqual(book(["b", "a", "b", "a"]), book(["a", "b"]))

    def test_words_that_begin_one_another(self):
        self.assertEqual(book(["abc", "a"]), (((("a", 1),), (("b", 2),), (("c", 3),), ()), (1, 3)))
        self.assertEqual(book(["a", "ab", "abc"])[1], (1, 2, 3))

    def test_the_rooms_in_the_order_of_texts(self):
        words = ["cat", "ca r", "Cb", "c", "~"]
        rooms = ["", "C", "Cb", "c", "ca", "ca ", "ca r", "cat", "~"]
        self.assertEqual(rooms, sorted(rooms))
        house = book(words)
        self.assertEqual(len(house[0]), len(rooms))
        for room, beginning in enumerate(rooms):
            self.assertEqual(goes(house, beginning), room)
        self.assertEqual(house[1], (2, 3, 6, 7, 8))
        self.assertEqual(house[0][3:6], ((("a", 4),), ((" ", 5), ("t", 7)), (("r", 6),)))
        self.assertEqual(sum(len(pairs) for pairs in house[0]), len(rooms) - 1)
        assert_all_tuples(self, house)

    def test_the_words_in_any_order(self):
        words = ["cat", "ca r", "Cb", "c", "~", "cat", ""]
        draw = Draw(2)
        for _ in range(20):
            self.assertEqual(book(draw.shuffled(words)), book(words))

    def test_it_takes_just_these_words(self):
        for words in ([], [""], ["a"], ["ab", "ba", "b"], ["abab", "ab", "aa", "aa", ""], ["bbb", "baa", "bab"]):
            house = book(words)
            for text in short_texts("abc", 5):
                self.assertIs(takes(house, text), text in words, (words, text))

    def test_forty_rooms(self):
        self.assertEqual(len(book(["a" * 39])[0]), 40)
        self.assertEqual(len(book(list(SIGNS[:39]) + [""] + list(SIGNS[:39]))[0]), 40)
        self.assertEqual(len(book(["a" * 20, "b" * 19, "a" * 19] * 100)[0]), 40)

    def test_more_than_forty_rooms(self):
        for words in (
            ["a" * 40], list(SIGNS[:40]), ["a" * 20, "b" * 20], ["a" * 400], list(SIGNS), ["", "a" * 39, "b"],
            [SIGNS[place % 94] + SIGNS[place // 94] + "a" * 398 for place in range(400)],
        ):
            assert_refused(self, "NoHouse", book, words)

    def test_what_was_handed_in_stays_and_is_not_kept(self):
        words = ["b", "ab", "b", ""]
        house = book(words)
        self.assertEqual(words, ["b", "ab", "b", ""])
        wanted = copy.deepcopy(house)
        words.append("c")
        words[0] = "d"
        self.assertEqual(house, wanted)
        self.assertEqual(book(["", "ab", "b"]), wanted)

    def test_refused_words_stay(self):
        words = ["b", "a" * 40, "b"]
        assert_refused(self, "NoHouse", book, words)
        self.assertEqual(words, ["b", "a" * 40, "b"])


def sums_by_point(signs, many, wheel):
    """The rooms as the document numbers them, each door by itself."""
    doors = {}
    for turn in range(len(wheel)):
        for rest in range(many):
            for place, sign in enumerate(signs):
                left = (rest + (place + 1) * wheel[turn]) % many
                after = 0 if turn == len(wheel) - 1 else turn + 1
                doors[turn * many + rest, sign] = after * many + left
    rooms = range(many * len(wheel))
    listed = tuple(tuple((sign, doors[room, sign]) for sign in sorted(signs)) for room in rooms)
    return (listed, tuple(room for room in rooms if room % many == 0))


class SumsTest(unittest.TestCase):
    def test_the_wheel_left_out(self):
        wanted = (((("a", 1), ("b", 2)), (("a", 2), ("b", 0)), (("a", 0), ("b", 1))), (0,))
        self.assertEqual(sums("ab", 3), wanted)
        self.assertEqual(sums("ab", 3, None), wanted)
        self.assertEqual(sums("ab", 3, wheel=None), wanted)
        self.assertEqual(sums("ab", 3, (1,)), wanted)

    def test_the_worth_is_the_place_and_not_the_order(self):
        self.assertEqual(sums("ba", 3)[0][0], (("a", 2), ("b", 1)))

    def test_the_wheel_told(self):
        wanted = (((("a", 3), ("b", 2)), (("a", 2), ("b", 3)), (("a", 0), ("b", 0)), (("a", 1), ("b", 1))), (0, 2))
        self.assertEqual(sums("ab", 2, (3, 2)), wanted)
        self.assertEqual(sums("ab", 2, wheel=(3, 2)), wanted)

    def test_many_one(self):
        self.assertEqual(sums("ba", 1), free("ab"))
        self.assertEqual(sums("a", 1, (5, 0)), (((("a", 1),), (("a", 0),)), (0, 1)))

    def test_no_signs(self):
        self.assertEqual(sums("", 3), (((), (), ()), (0,)))
        self.assertEqual(sums("", 2, (1, 1)), (((), (), (), ()), (0, 2)))

    def test_the_rooms_as_they_are_numbered(self):
        for signs in ("", "a", "ba", "x az", SIGNS[::-1]):
            for many, wheel in (
                (1, (1,)), (2, (1,)), (7, (1,)), (40, (1,)), (10, (1, 3)), (5, (0, 1000)), (4, (0,)), (3, (1000,)),
                (11, (3, 1, 7)), (2, (1,) * 20), (1, tuple(range(40))), (20, (999, 1000)), (13, (0, 1000, 1)),
            ):
                house = sums(signs, many, wheel)
                self.assertEqual(house, sums_by_point(signs, many, wheel), (signs, many, wheel))
                assert_all_tuples(self, house)

    def test_it_takes_the_texts_whose_sum_leaves_no_rest(self):
        house = sums("cab", 5, (1, 0, 1000, 2))
        for text in short_texts("abc", 6):
            worths = ["cab".index(sign) + 1 for sign in text]
            total = sum(worth * (1, 0, 1000, 2)[place % 4] for place, worth in enumerate(worths))
            self.assertIs(takes(house, text), total % 5 == 0)

    def test_a_long_text(self):
        self.assertEqual(goes(sums("ab", 37), "ab" * 200), 600 % 37)

    def test_forty_rooms(self):
        for many, wheel in ((40, None), (40, (2,)), (20, (1, 2)), (8, (1, 2, 3, 4, 5)), (1, (1,) * 40)):
            self.assertEqual(len(sums("ab", many, wheel)[0]), 40)

    def test_more_than_forty_rooms(self):
        for many, wheel in (
            (41, None), (41, (1,)), (21, (1, 2)), (14, (1, 2, 3)), (1, (1,) * 41), (2, (1,) * 21), (40, (1, 1)),
            (1, (1,) * 400), (2 ** 64, None), (VERY_FAR, None), (VERY_FAR, (1,) * 400),
        ):
            assert_refused(self, "NoHouse", sums, "ab", many, wheel)
            assert_refused(self, "NoHouse", sums, "", many, wheel)

    def test_a_sign_twice(self):
        for signs in ("aa", "aba", "cabb"):
            assert_refused(self, "NoHouse", sums, signs, 3)
            assert_refused(self, "NoHouse", sums, signs, 1, (1, 2))

    def test_many_that_is_none(self):
        for many in (0, -1, -3, -40, -VERY_FAR) + NO_WHOLES:
            for signs in ("ab", ""):
                assert_refused(self, "NoHouse", sums, signs, many)
                assert_refused(self, "NoHouse", sums, signs, many, (1, 2))

    def test_a_wheel_with_no_numbers(self):
        for many in (1, 3, 40):
            assert_refused(self, "NoHouse", sums, "ab", many, ())

    def test_a_wheel_with_something_else(self):
        for thing in (-1, -2, 1001, 1002, VERY_FAR, -VERY_FAR) + NO_WHOLES:
            for wheel in ((thing,), (thing, 1), (1, thing), (0, thing, 1000), (thing, thing)):
                assert_refused(self, "NoHouse", sums, "ab", 3, wheel)
                assert_refused(self, "NoHouse", sums, "", 1, wheel)

    def test_each_number_of_a_wheel_from_0_to_1000(self):
        for number in range(1001):
            self.assertEqual(sums("a", 7, (number,))[0][0], (("a", number % 7),))


HOUSES = (
    free("ab"), free("abc"), free(""), book([]), book([""]), book(["ab", "b", "abba"]), book(["c", "ab", "bca"]),
    sums("ab", 3), sums("abc", 2), sums("ba", 2, (1, 0, 3)), sums("cab", 5), make_house([[("a", 0)]], []),
    make_house([[("a", 1), ("b", 0)], [("a", 0), ("c", 2)], [("b", 3)], [("a", 1)], [("a", 4)]], [0, 3, 4]),
)


class BothTest(unittest.TestCase):
    def test_two_sums_houses(self):
        house = both(sums("ab", 2), sums("ab", 3))
        self.assertEqual(len(house[0]), 6)
        for text in short_texts("ab", 7):
            worth = text.count("a") + 2 * text.count("b")
            self.assertIs(takes(house, text), worth % 6 == 0)

    def test_it_takes_just_the_texts_that_both_take(self):
        for one, other in itertools.product(HOUSES, repeat=2):
            house = both(one, other)
            for text in short_texts("abc", 5):
                self.assertIs(takes(house, text), takes(one, text) and takes(other, text))

    def test_each_text_leads_to_the_room_of_its_pair_and_nowhere_where_one_leads_nowhere(self):
        for one, other in itertools.product(HOUSES, repeat=2):
            house = both(one, other)
            pair_of, room_of = {}, {}
            for text in short_texts("abc", 6):
                room, pair = goes(house, text), (goes(one, text), goes(other, text))
                if None in pair:
                    self.assertIsNone(room)
                else:
                    self.assertEqual(pair_of.setdefault(room, pair), pair)
                    self.assertEqual(room_of.setdefault(pair, room), room)
            self.assertEqual(pair_of[0], (0, 0))

    def test_each_pair_to_which_a_text_leads_once_and_no_other(self):
        for one, other in itertools.product(HOUSES, repeat=2):
            reached, new = {(0, 0)}, [(0, 0)]
            while new:
                left, right = new.pop()
                doors, beside = dict(one[0][left]), dict(other[0][right])
                for sign in doors:
                    pair = (doors[sign], beside.get(sign))
                    if pair[1] is not None and pair not in reached:
                        reached.add(pair)
                        new.append(pair)
            self.assertEqual(len(both(one, other)[0]), len(reached))

    def test_either_way_about(self):
        for one, other in itertools.product(HOUSES, repeat=2):
            house, turned = both(one, other), both(other, one)
            self.assertEqual(len(house[0]), len(turned[0]))
            for text in short_texts("abc", 4):
                self.assertIs(takes(house, text), takes(turned, text))
                self.assertEqual(goes(house, text) is None, goes(turned, text) is None)

    def test_a_house_with_itself(self):
        for house in HOUSES:
            self.assertLessEqual(len(both(house, house)[0]), len(house[0]))
            for text in short_texts("abc", 5):
                self.assertIs(takes(both(house, house), text), takes(house, text))

    def test_nothing_shared(self):
        self.assertEqual(both(free("ab"), free("cd")), free(""))
        self.assertEqual(both(book(["a"]), free("b")), (((),), ()))

    def test_doors_are_sorted_and_all_is_tuples(self):
        house = both(sums("zyx a", 4), sums("ax zy", 5))
        self.assertEqual(len(house[0]), 20)
        for pairs in house[0]:
            self.assertEqual([sign for sign, _ in pairs], list(" axyz"))
        self.assertEqual(list(house[1]), sorted(house[1]))
        assert_all_tuples(self, house)

    def test_forty_rooms(self):
        self.assertEqual(len(both(sums("ab", 5), sums("ab", 8))[0]), 40)
        self.assertEqual(len(both(sums("ab", 40), free("a"))[0]), 40)
        self.assertEqual(len(both(book(["a" * 39]), sums("ab", 40))[0]), 40)

    def test_many_pairs_of_which_few_are_reached(self):
        self.assertEqual(len(both(sums("ab", 40), sums("ab", 20))[0]), 40)

    def test_more_than_forty_rooms(self):
        # Behind the first sign it is always room 1: 40 pairs with it, and (0, 0).
        once = make_house([[("a", 1)], [("a", 1)]], [1])
        self.assertEqual(len(both(sums("a", 39), once)[0]), 40)
        for one, other in (
            (sums("a", 40), once), (sums("ab", 6), sums("ab", 7)), (sums("a", 3), sums("a", 14)),
            (sums("ab", 39), sums("ab", 40)), (sums("ab", 40), sums("ba", 40)),
        ):
            assert_refused(self, "NoHouse", both, one, other)
            assert_refused(self, "NoHouse", both, other, one)

    def test_what_was_handed_in_stays(self):
        one, other = sums("ab", 3), book(["ab", "ba"])
        before = copy.deepcopy((one, other))
        both(one, other)
        self.assertEqual((one, other), before)


class PaddedTest(unittest.TestCase):
    def test_padded(self):
        house = make_house([[("a", 1)], [("b", 0)]], [1])
        self.assertEqual(padded(house, "_"), (((("a", 1),), (("_", 2), ("b", 0)), (("_", 2),)), (1, 2)))
        self.assertEqual(padded(free("ab"), " "), ((((" ", 1), ("a", 0), ("b", 0)), ((" ", 1),)), (0, 1)))

    def test_no_ends(self):
        house = make_house([[("a", 0)]], [])
        self.assertEqual(padded(house, "b"), (((("a", 0),), (("b", 1),)), (1,)))
        for text in short_texts("ab", 4):
            self.assertIs(takes(padded(house, "b"), text), False)

    def test_rooms_and_doors_stay_and_the_last_room_is_one_more_end(self):
        for house in HOUSES:
            for filler in " d~":
                more = padded(house, filler)
                last = len(house[0])
                self.assertEqual(len(more[0]), last + 1)
                self.assertEqual(more[1], house[1] + (last,))
                self.assertEqual(more[0][last], ((filler, last),))
                for room in range(last):
                    added = ((filler, last),) if room in house[1] else ()
                    self.assertEqual(more[0][room], tuple(sorted(house[0][room] + added)))
                assert_all_tuples(self, more)

    def test_it_takes_the_texts_with_fillers_behind(self):
        for house in HOUSES:
            more = padded(house, "d")
            for text in short_texts("abcd", 5):
                self.assertIs(takes(more, text), takes(house, text.rstrip("d")))

    def test_many_fillers_behind(self):
        more = padded(sums("ab", 3), "-")
        for many in (0, 1, 2, 3, 50, 398):
            self.assertIs(takes(more, "ab" + "-" * many), True)
            self.assertIs(takes(more, "a" + "-" * many), False)
        self.assertIs(takes(more, "-" * 400), True)

    def test_fillers_in_the_middle_or_ahead(self):
        more = padded(sums("ab", 3), "-")
        for text in ("a-b", "-ab", "ab-ab", "ab-ab-", "a-b-", "--ab", "ab--ab"):
            self.assertIs(takes(more, text), False, text)
            self.assertIsNone(goes(more, text), text)

    def test_padded_twice_with_two_fillers(self):
        more = padded(padded(book(["a"]), "."), "-")
        for text in ("a", "a.", "a..", "a-", "a.-", "a..--"):
            self.assertIs(takes(more, text), True)
        for text in ("a-.", "", ".", "-", "a.a"):
            self.assertIs(takes(more, text), False)

    def test_a_filler_that_is_no_sign(self):
        for filler in NO_SIGNS:
            for house in (free("ab"), free("a"), free(""), book(["ab"])):
                assert_refused(self, "NoHouse", padded, house, filler)

    def test_a_filler_that_is_the_sign_of_a_door(self):
        house = make_house([[("a", 1)], [("b", 0)], [("c", 0), ("d", 2)]], [1])
        for filler in "abcd":
            assert_refused(self, "NoHouse", padded, house, filler)
        self.assertEqual(len(padded(house, "e")[0]), 4)
        assert_refused(self, "NoHouse", padded, padded(house, "e"), "e")

    def test_every_other_sign_may_be_a_filler(self):
        for filler in SIGNS:
            if filler not in "ab":
                self.assertIs(takes(padded(free("ab"), filler), "ab" + filler), True)

    def test_forty_rooms(self):
        self.assertEqual(len(padded(sums("ab", 39), "-")[0]), 40)
        for house in (sums("ab", 40), book(["a" * 39]), make_house([[]] * 40, [])):
            assert_refused(self, "NoHouse", padded, house, "-")

    def test_what_was_handed_in_stays(self):
        house = sums("ab", 3)
        before = copy.deepcopy(house)
        padded(house, "-")
        self.assertEqual(house, before)


if __name__ == "__main__":
    unittest.main()
