import copy
import unittest

from blotsure.far import far_paper
from blotsure.farlook import far_holds
from blotsure.fonts import make_font
from blotsure.houses import make_house
from blotsure.makers import book, free, sums
from far_cases import EVEN, MANY, MIXED, RING, paper_by_rounds
from helpers import VERY_FAR, Draw
from near_cases import NARROW, drawn_strip, fewer_doors

# Of MIXED, x and y are [1], z is [1, 1], u is [3, 0], v is [0, 2, 3], w is [2].
SMALL = (
    (MIXED, free("xz")), (MIXED, RING), (MIXED, book(["xx", "z", "v", "yw"])), (MIXED, book(["u", "w"])),
    (EVEN, sums("ab", 2)), (NARROW, sums("ac", 2)), (MIXED, make_house([[("x", 0), ("y", 0)]], [])),
)
WITHOUT_STANDS = ((MIXED, free("")), (MIXED, free("x")), (MIXED, free("qx")), (MIXED, book([])), (EVEN, book(["abcd"])))


def changed(paper, place, row):
    return paper[:place] + [row] + paper[place + 1:]


class FarHoldsTest(unittest.TestCase):
    def assert_does_not_hold(self, case, paper):
        self.assertIs(far_holds(*case, paper), False, paper)

    def test_the_far_paper_holds(self):
        for font, house in MANY:
            self.assertIs(far_holds(font, house, far_paper(font, house)), True)

    def test_the_paper_by_rounds_holds(self):
        for font, house in MANY:
            self.assertIs(far_holds(font, house, paper_by_rounds(font, house)), True)

    def test_a_paper_by_hand(self):
        paper = [((0, 0, ()), 0, 0), ((0, 0, (1,)), 0, 1), ((0, 0, (1, 1)), 0, 1)]
        self.assertIs(far_holds(MIXED, free("xz"), paper), True)
        self.assertIs(far_holds(MIXED, book(["u", "w"]), [((2, 1, (0,)), None, None)]), True)

    def test_no_rows(self):
        for case in SMALL:
            self.assert_does_not_hold(case, [])
        for case in WITHOUT_STANDS:
            self.assertIs(far_holds(*case, []), True)

    def test_some_rows_where_none_are_due(self):
        for case in WITHOUT_STANDS:
            for row in (((0, 0, ()), 0, 0), ((0, 0, ()), None, None), ((0, 0, (1,)), 0, 1), ((5, 5, ()), -1, -1)):
                self.assert_does_not_hold(case, [row])

    def test_a_row_less(self):
        for case in SMALL:
            paper = far_paper(*case)
            for place in range(len(paper)):
                self.assert_does_not_hold(case, paper[:place] + paper[place + 1:])

    def test_a_row_more(self):
        for case in SMALL:
            paper = far_paper(*case)
            others = [((0, 0, (9,)), 0, 0), ((99, 0, ()), None, None), paper[0], paper[-1]]
            for place in range(len(paper) + 1):
                for row in others:
                    self.assert_does_not_hold(case, paper[:place] + [row] + paper[place:])

    def test_many_rows(self):
        for case in SMALL:
            paper = far_paper(*case)
            self.assert_does_not_hold(case, (paper * 6000)[:6000])

    def test_two_rows_in_another_order(self):
        for case in SMALL:
            paper = far_paper(*case)
            for one in range(len(paper)):
                for other in range(one):
                    swapped = changed(changed(paper, one, paper[other]), other, paper[one])
                    self.assert_does_not_hold(case, swapped)
            if len(paper) > 1:
                self.assert_does_not_hold(case, paper[::-1])

    def test_one_number_changed_at_any_place(self):
        for case in SMALL:
            paper = far_paper(*case)
            for place, (stand, cost, letters) in enumerate(paper):
                if cost is not None:
                    for row in (
                        (stand, cost + 1, letters), (stand, cost - 1, letters), (stand, cost, letters + 1),
                        (stand, cost, letters - 1), (stand, -cost - 1, letters), (stand, cost, -letters - 1),
                        (stand, VERY_FAR, letters), (stand, -VERY_FAR, letters), (stand, cost, VERY_FAR),
                        (stand, cost + 1, letters - 1), (stand, cost - 1, letters + 1),
                    ):
                        self.assert_does_not_hold(case, changed(paper, place, row))

    def test_none_where_a_number_is_due(self):
        for case in SMALL:
            paper = far_paper(*case)
            for place, (stand, cost, letters) in enumerate(paper):
                if cost is not None:
                    for row in ((stand, None, letters), (stand, cost, None), (stand, None, None)):
                        self.assert_does_not_hold(case, changed(paper, place, row))

    def test_a_number_where_none_is_due(self):
        looked = 0
        for case in SMALL:
            paper = far_paper(*case)
            for place, (stand, cost, letters) in enumerate(paper):
                if cost is None:
                    looked += 1
                    for row in (
                        (stand, 0, None), (stand, None, 0), (stand, 0, 0), (stand, 0, 1), (stand, -1, -1),
                        (stand, VERY_FAR, VERY_FAR),
                    ):
                        self.assert_does_not_hold(case, changed(paper, place, row))
        self.assertGreater(looked, 5)

    def test_another_stand(self):
        for case in SMALL:
            paper = far_paper(*case)
            for place, (stand, cost, letters) in enumerate(paper):
                behind, ahead, over = stand
                for other in (
                    (behind + 1, ahead, over), (behind - 1, ahead, over), (behind, ahead + 1, over),
                    (behind, ahead - 1, over), (behind, ahead, over + (0,)), (behind, ahead, (0,) + over),
                    (behind, ahead, over + (-1,)), (behind, ahead, tuple(column + 1 for column in over) + (1,)),
                    (-VERY_FAR, ahead, over), (behind, VERY_FAR, over),
                ):
                    self.assert_does_not_hold(case, changed(paper, place, (other, cost, letters)))
                if over:
                    self.assert_does_not_hold(case, changed(paper, place, ((behind, ahead, over[1:]), cost, letters)))
                if behind != ahead:
                    self.assert_does_not_hold(case, changed(paper, place, ((ahead, behind, over), cost, letters)))

    def test_rings_that_would_hold_themselves_up(self):
        # Each row would follow from the others: round and round for nothing, never to an even stand.
        case = (MIXED, make_house([[("x", 0), ("y", 0)]], []))
        paper = far_paper(*case)
        self.assertEqual({row[1] for row in paper}, {None})
        self.assert_does_not_hold(case, [(stand, 0, 1) for stand, _, _ in paper])
        # All costs too great or too small by the same.
        for case in SMALL:
            for more in (1, -1, 7):
                paper = [
                    row if row[1] is None else (row[0], row[1] + more, row[2]) for row in far_paper(*case)
                ]
                if paper != far_paper(*case):
                    self.assert_does_not_hold(case, paper)

    def test_the_far_paper_of_another_house_or_font(self):
        self.assert_does_not_hold((MIXED, free("xz")), far_paper(MIXED, free("xw")))
        self.assert_does_not_hold((MIXED, free("xw")), far_paper(MIXED, free("xz")))
        self.assert_does_not_hold((NARROW, free("ac")), far_paper(EVEN, free("ac")))
        doors = [[("x", 1), ("y", 2)], [], []]
        both_ends = make_house(doors, [1, 2])
        self.assert_does_not_hold((MIXED, both_ends), far_paper(MIXED, make_house(doors, [1])))

    def test_a_paper_of_many_stands(self):
        draw = Draw(3)
        signs = "abcdefghij"
        font = make_font(5, [(sign, drawn_strip(draw, (5,), (3, 4, 5)[k % 3])) for k, sign in enumerate(signs)])
        case = (font, sums(signs, 10))
        paper = far_paper(*case)
        self.assertIs(far_holds(*case, list(paper)), True)
        for place in (0, 1, len(paper) // 2, len(paper) - 1):
            stand, cost, letters = paper[place]
            self.assert_does_not_hold(case, changed(paper, place, (stand, cost - 1, letters)))

    def test_signs_that_the_font_lacks(self):
        for font, house in MANY:
            self.assertIs(far_holds(font, house, far_paper(font, fewer_doors(font, house))), True)

    def test_what_is_handed_in_stays_and_is_not_kept(self):
        for font, house in SMALL:
            paper = far_paper(font, house)
            before = copy.deepcopy((font, house, paper))
            far_holds(font, house, paper)
            self.assertEqual((font, house, paper), before)
            wrong = paper[::-1] + [((0, 0, ()), -1, None)]
            kept = copy.deepcopy(wrong)
            far_holds(font, house, wrong)
            self.assertEqual(wrong, kept)
            paper.append(paper[0])
            self.assertIs(far_holds(font, house, paper), False)
            paper.pop()
            self.assertIs(far_holds(font, house, paper), True)


if __name__ == "__main__":
    unittest.main()
