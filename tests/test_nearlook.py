import copy
import unittest

from blotsure.fonts import make_font
from blotsure.houses import make_house
from blotsure.makers import book, free, sums
from blotsure.near import near_paper
from blotsure.nearlook import near_holds
from helpers import VERY_FAR, Draw
from near_cases import FONT, NARROW, ODD, cases, drawn_strip, fewer_doors, paper_by_writing

SMALL = (
    (FONT, ODD, [1, 6, 5, 2, 0, 7]), (NARROW, sums("abc", 3), [0, 3, 1]), (FONT, free("aAb"), [1]),
    (FONT, book(["ab", ""]), []), (FONT, book([]), [3, 3]), (FONT, ODD, []),
)


def changed(paper, x, room, thing):
    other = copy.deepcopy(paper)
    other[x][room] = thing
    return other


def places(paper):
    return [(x, room) for x, row in enumerate(paper) for room in range(len(row))]


class NearHoldsTest(unittest.TestCase):
    def assert_does_not_hold(self, case, paper):
        self.assertIs(near_holds(*case, paper), False, paper)

    def test_the_near_paper_holds(self):
        for font, house, strip in cases():
            self.assertIs(near_holds(font, house, strip, near_paper(font, house, strip)), True)

    def test_the_paper_by_writing_all_texts_down_holds(self):
        for font, house, strip in cases():
            self.assertIs(near_holds(font, house, strip, paper_by_writing(font, house, strip)), True)

    def test_a_paper_by_hand(self):
        house = make_house([[("a", 1), ("b", 0), ("B", 0)], [("c", 0)]], [0])
        paper = [[(2, 10), (1, 4)], [(1, 4), (0, 2)], [(0, 2), (1, 1)], [(0, 1), None]]
        self.assertIs(near_holds(NARROW, house, [3, 3, 1], paper), True)

    def test_a_wide_paper(self):
        strip = drawn_strip(Draw(4), FONT, 400)
        house = sums("abcdefghij", 5)
        paper = near_paper(FONT, house, strip)
        self.assertIs(near_holds(FONT, house, strip, paper), True)
        for x in (0, 1, 200, 399, 400):
            self.assert_does_not_hold((FONT, house, strip), changed(paper, x, 3, (-1, -1)))

    def test_no_rows_at_all(self):
        for case in SMALL:
            self.assert_does_not_hold(case, [])

    def test_a_row_less(self):
        for case in SMALL:
            paper = near_paper(*case)
            for x in range(len(paper)):
                self.assert_does_not_hold(case, paper[:x] + paper[x + 1:])

    def test_a_row_more(self):
        for case in SMALL:
            paper = near_paper(*case)
            for x in range(len(paper) + 1):
                for row in ([], [None] * len(case[1][0]), paper[0], paper[-1]):
                    self.assert_does_not_hold(case, paper[:x] + [list(row)] + paper[x:])

    def test_many_rows(self):
        for case in SMALL:
            paper = near_paper(*case)
            self.assert_does_not_hold(case, (paper * 6000)[:6000])
            self.assert_does_not_hold(case, paper + [[] for _ in range(5000)])

    def test_rows_without_things(self):
        for case in SMALL:
            self.assert_does_not_hold(case, [[] for _ in range(len(case[2]) + 1)])

    def test_a_rooms_thing_less(self):
        for case in SMALL:
            paper = near_paper(*case)
            for x, room in places(paper):
                other = copy.deepcopy(paper)
                other[x].pop(room)
                self.assert_does_not_hold(case, other)

    def test_a_rooms_thing_more(self):
        for case in SMALL:
            paper = near_paper(*case)
            for x in range(len(paper)):
                for thing in (None, (0, 1), (0, 0)):
                    for room in (0, len(paper[x])):
                        other = copy.deepcopy(paper)
                        other[x].insert(room, thing)
                        if other != paper:
                            self.assert_does_not_hold(case, other)

    def test_one_number_changed_at_any_place(self):
        for case in SMALL:
            paper = near_paper(*case)
            for x, room in places(paper):
                if paper[x][room] is not None:
                    far, many = paper[x][room]
                    for thing in (
                        (far + 1, many), (far - 1, many), (far, many + 1), (far, many - 1), (-far - 1, many),
                        (far, -many), (-VERY_FAR, many), (VERY_FAR, many), (far, VERY_FAR), (far + 1, many - 1),
                    ):
                        self.assert_does_not_hold(case, changed(paper, x, room, thing))

    def test_none_where_a_tuple_is_due_and_a_tuple_where_none_is_due(self):
        for case in SMALL:
            paper = near_paper(*case)
            for x, room in places(paper):
                if paper[x][room] is None:
                    for thing in ((0, 0), (0, 1), (1, 0), (-1, -1), (VERY_FAR, 0)):
                        self.assert_does_not_hold(case, changed(paper, x, room, thing))
                else:
                    self.assert_does_not_hold(case, changed(paper, x, room, None))

    def test_a_change_that_is_carried_on_ahead(self):
        # Each row but the last would follow from the rows behind it.
        font = make_font(1, [("a", [1])])
        case = (font, free("a"), [1, 1, 1])
        self.assertIs(near_holds(*case, [[(0, 1)]] * 4), True)
        for thing in ((0, 2), (1, 1), (0, 0), (-1, 1), None):
            self.assert_does_not_hold(case, [[thing]] * 4)

    def test_the_near_paper_of_another_strip(self):
        for font, house, strip, other in (
            (FONT, free("ab"), [1, 6, 1], [1, 6, 0]), (FONT, free("ab"), [1, 6, 1], [0, 6, 1]),
            (FONT, free("ab"), [1], [1, 1]), (FONT, free("ab"), [1], []), (FONT, ODD, [6, 6], [6, 7]),
        ):
            self.assert_does_not_hold((font, house, strip), near_paper(font, house, other))
            self.assert_does_not_hold((font, house, other), near_paper(font, house, strip))

    def test_the_near_paper_of_another_house_or_font(self):
        self.assert_does_not_hold((FONT, free("ab"), [1, 6]), near_paper(FONT, free("a"), [1, 6]))
        self.assert_does_not_hold((FONT, free("ab"), [0, 1]), near_paper(NARROW, free("ab"), [0, 1]))

    def test_doors_whose_signs_the_font_lacks_are_never_gone_through(self):
        house = make_house([[("q", 1), ("a", 0)], [("a", 1)]], [1])
        self.assertIs(near_holds(NARROW, house, [0], [[None, (0, 1)], [None, (0, 1)]]), True)
        self.assertIs(near_holds(NARROW, house, [0], [[(0, 1), (0, 1)], [None, (0, 1)]]), False)
        for font, full, strip in cases():
            fewer = fewer_doors(font, full)
            self.assertIs(near_holds(font, full, strip, near_paper(font, fewer, strip)), True)

    def test_what_is_handed_in_stays_and_is_not_kept(self):
        for font, house, strip in SMALL:
            paper = near_paper(font, house, strip)
            before = copy.deepcopy((font, house, strip, paper))
            near_holds(font, house, strip, paper)
            self.assertEqual((font, house, strip, paper), before)
            wrong = paper + [[None]]
            near_holds(font, house, strip, wrong)
            self.assertEqual(wrong, before[3] + [[None]])
            paper[0].append(None)
            self.assertIs(near_holds(font, house, strip, paper), False)
            paper[0].pop()
            self.assertIs(near_holds(font, house, strip, paper), True)


if __name__ == "__main__":
    unittest.main()
