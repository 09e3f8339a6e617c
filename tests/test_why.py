"""Promises 1 and 2: what why answers for a cutting, and which fault is told first."""

import unittest
from fractions import Fraction

import reckon
from helpers import (
    COMB, DART, GREATEST, KITE, LEAST_PART, LONG, NINE, OCTAGON, PAIRS, SQUARE, TWELVE, TWO_LEGS, U, Numbers,
    begun_at, box, part, random_figure, random_piece, row_of, slid, turned,
)
from recutfigures.cuttings import between, why

HALF = Fraction(1, 2)
LOWER = box(0, 0, 2, 1)
UPPER = box(0, 1, 2, 2)
WHOLE = box(-50, -50, 50, 50)


class Right(unittest.TestCase):
    def right(self, f, g, row):
        self.assertEqual(reckon.why(f, g, reckon.handed(row)), [1])
        self.assertEqual(why(f, g, row), [1])

    def test_what_between_answers(self):
        for w, f, g in PAIRS:
            with self.subTest(w=w, f=f, g=g):
                self.right(f, g, between(w, f, g)[1:])

    def test_in_any_order_and_begun_with_any_corner(self):
        numbers = Numbers(3)
        for w, f, g in PAIRS:
            with self.subTest(w=w, f=f, g=g):
                cutting = []
                for piece, move in numbers.mixed(reckon.handed(between(w, f, g)[1:])):
                    k = numbers.below(len(piece))
                    cutting.append((piece[k:] + piece[:k], move))
                self.right(f, g, row_of(cutting))
                self.right(g, f, row_of(reckon.back(cutting)))

    def test_one_part_that_is_all(self):
        for figure in (SQUARE, LONG, KITE, OCTAGON, [0, 0, 3, 0, 0, 3], WHOLE):
            for k in range(len(figure) // 2):
                row = begun_at(figure, k)
                self.right(figure, figure, part(row))
                self.right(figure, turned(figure), part(row, 1))
                if figure != WHOLE:
                    self.right(figure, slid(figure, 7, -11), part(row, 0, 7, -11))
                    self.right(figure, slid(turned(figure), -3, 4), part(row, 1, -3, 4))

    def test_a_figure_begun_with_any_corner(self):
        for w, f, g in ((2, U, NINE), (3, TWO_LEGS, TWELVE), (2, COMB, COMB)):
            row = between(w, f, g)[1:]
            for k in range(len(f) // 2):
                for j in range(len(g) // 2):
                    self.assertEqual(why(begun_at(f, k), begun_at(g, j), row), [1])

    def test_two_halves(self):
        self.right(SQUARE, SQUARE, part(LOWER) + part(UPPER))
        self.right(SQUARE, SQUARE, part(LOWER, 1, 2, 2) + part(UPPER, 1, 2, 2))
        self.right(SQUARE, SQUARE, part(LOWER, 0, 0, 1) + part(UPPER, 0, 0, -1))
        self.right(SQUARE, LONG, part(LOWER) + part(UPPER, 0, 2, -1))

    def test_parts_that_only_touch_in_a_point(self):
        cells = (box(0, 0, 1, 1), box(1, 1, 2, 2), box(1, 0, 2, 1), box(0, 1, 1, 2))
        self.right(SQUARE, SQUARE, sum(map(part, cells), []))

    def test_parts_that_touch_in_part_of_a_side(self):
        self.right(NINE, NINE, part(box(0, 0, 2, 1)) + part(box(2, 0, 3, 2)) + part(box(1, 2, 3, 3))
                   + part(box(0, 1, 1, 3)) + part(box(1, 1, 2, 2)))

    def test_by_moves_of_256_bits(self):
        cut = Fraction(2 ** 255, GREATEST)
        for turn, way in ((0, 0), (1, 2)):
            self.right(SQUARE, SQUARE, part(box(0, 0, cut, 2), turn, way, way) + part(box(cut, 0, 2, 2), turn, way, way))
        self.right(SQUARE, SQUARE, part(box(0, 0, cut, 2), 0, 2 - cut, 0) + part(box(cut, 0, 2, 2), 0, -cut, 0))

    def test_a_piece_of_forty_corners_and_what_is_round_it(self):
        # Each corner is on a curve from 0, 39 * 39 down to 39, 0, both made smaller.
        corners = [(Fraction(k), Fraction((39 - k) ** 2, 39)) for k in range(40)]
        f = [0, 0, 39, 0, 39, 39, 0, 39]
        above = part([n for point in corners[:39] + [(39, 39)] for n in point])
        row = above + part([n for point in (corners[38], corners[39], (39, 39)) for n in point])
        for k in range(1, 39):
            row += part([n for point in ((0, 0), corners[k], corners[k - 1]) for n in point])
        row += part([n for point in ((0, 0), corners[39], corners[38]) for n in point])
        self.assertEqual(row[0], 40)
        self.right(f, f, row)


class Sizes(unittest.TestCase):
    def test_they_differ(self):
        for g in (NINE, [0, 0, 3, 0, 0, 3], [0, 0, 2, 0, 2, 1, 1, 2, 0, 2], WHOLE):
            for row in ([], part(SQUARE), part(g), part(SQUARE) * 2, part(WHOLE, 1, 100, 100)):
                self.assertEqual(why(SQUARE, g, row), [0, 1, 0, 0])
                self.assertEqual(why(g, SQUARE, row), [0, 1, 0, 0])

    def test_by_a_half(self):
        self.assertEqual(why([0, 0, 3, 0, 0, 3], SQUARE, part(SQUARE)), [0, 1, 0, 0])
        self.assertEqual(why([0, 0, 1, 0, 0, 1], box(0, 0, 1, 1), part([0, 0, 1, 0, 0, 1])), [0, 1, 0, 0])

    def test_they_do_not(self):
        self.assertEqual(why(SQUARE, [0, 0, 4, 0, 0, 2], []), [0, 6, 0, 0])


class NotAllInFirst(unittest.TestCase):
    def out(self, f, corners, place=0, ahead=()):
        row = part(corners)
        for one in reversed(ahead):
            row = part(one) + row
        self.assertEqual(reckon.why(f, f, reckon.handed(row)), [0, 2, place, 0])
        for k in range(len(f) // 2):
            self.assertEqual(why(begun_at(f, k), f, row), [0, 2, place, 0])

    def within(self, f, corners):
        row = part(corners)
        wanted = reckon.why(f, f, reckon.handed(row))
        self.assertIn(wanted, ([1], [0, 6, 0, 0]))
        for k in range(len(f) // 2):
            self.assertEqual(why(begun_at(f, k), f, row), wanted)

    def test_by_much(self):
        for corners in (box(5, 5, 6, 6), box(-2, 0, 0, 2), box(0, 2, 2, 4), box(2, 2, 4, 4), box(1, 1, 3, 3),
                        box(-1, -1, 3, 3), box(-1, HALF, 3, 1), box(HALF, -1, 1, 3), [1, 1, GREATEST, 1, 1, GREATEST],
                        box(-GREATEST, -GREATEST, GREATEST, GREATEST), box(0, GREATEST - 1, 1, GREATEST)):
            self.out(SQUARE, corners)

    def test_by_very_little(self):
        for by in (LEAST_PART, Fraction(1, 2 ** 255), Fraction(1, 10)):
            self.out(SQUARE, box(0, 0, 2, 2 + by))
            self.out(SQUARE, box(0, 0, 2 + by, 2))
            self.out(SQUARE, box(-by, 0, 2, 2))
            self.out(SQUARE, box(0, -by, 2, 2))
            self.out(SQUARE, box(1, -by, 2, 2))
            self.out(SQUARE, [0, 0, 2, 0, 2 + by, 1, 2, 2, 0, 2])
            self.out(SQUARE, [0, 0, 1, -by, 2, 2])
            self.within(SQUARE, box(0, 0, 2, 2 - by))
            self.within(SQUARE, box(by, 0, 2, 2))
            self.within(SQUARE, [0, 0, 2, 0, 2 - by, 1])
            self.out([0, 0, 3, 0, 0, 3], [0, 0, 1, 0, 1, 2 + by])
            self.within([0, 0, 3, 0, 0, 3], [0, 0, 1, 0, 1, 2])

    def test_on_the_border(self):
        for corners in (LOWER, UPPER, SQUARE, box(0, HALF, 1, 1), [0, 0, 2, 2, 0, 2], [0, 1, 1, 0, 2, 1, 1, 2],
                        [2, 0, 2, 2, 1, 1]):
            self.within(SQUARE, corners)
        for corners in (box(0, 0, 1, 3), box(4, 0, 5, 3), box(0, 0, 5, 1), box(1, 0, 4, 1), box(0, 1, 1, 2),
                        [1, 0, 4, 1, 1, 1]):
            self.within(U, corners)

    def test_all_corners_in_f_but_not_all_of_the_part(self):
        self.out(TWO_LEGS, [0, 0, 4, 0, 4, 4, 0, 4])
        self.out(TWO_LEGS, [0, 0, 4, 0, 2, 4])
        self.out(TWO_LEGS, [1, 1, 3, 1, 2, 3])
        self.out(U, box(0, 0, 5, 3))
        self.out(U, [0, 2, 4, 2, 5, 3, 0, 3])
        self.out(U, [HALF, HALF, Fraction(9, 2), HALF, Fraction(9, 2), 2])
        self.out(U, [HALF, 2, 2, HALF, 3, HALF, Fraction(9, 2), 2])
        self.out(DART, [0, 0, 4, 2, 0, 4])
        self.out(COMB, [0, 0, 6, 0, 6, 4])
        self.out(COMB, [0, 0, 6, 0, 3, 5])

    def test_by_very_little_round_an_inner_corner(self):
        low = 2 + LEAST_PART
        self.within(TWO_LEGS, box(0, 2, 4, 4))
        self.within(TWO_LEGS, box(1, low, 3, 4))
        self.out(TWO_LEGS, box(1, 2 - LEAST_PART, 3, 4))
        self.within(U, box(0, 0, 5, 1))
        self.out(U, box(0, 0, 5, 1 + LEAST_PART))
        self.out(U, box(HALF, 0, 5 - HALF, 1 + LEAST_PART))
        self.within(U, [0, 0, 1, 1, 1, 3, 0, 3])
        self.out(U, [0, 0, 1, 0, 1 + LEAST_PART, 3, 0, 3])
        self.out(DART, [0, 0, 4, 2, 1 - LEAST_PART, 2])
        self.within(DART, [0, 0, 4, 2, 1, 2])

    def test_in_a_dent(self):
        self.out(TWO_LEGS, [0, 0, 4, 0, 2, 2])
        self.out(TWO_LEGS, [1, 0, 3, 0, 2, 1])
        self.out(U, box(1, 1, 4, 3))
        self.out(U, box(2, 1, 3, 3))
        self.out(U, box(2, 2, 3, 3))
        self.out(DART, [0, 0, 1, 2, 0, 4])

    def test_a_dent_that_leads_through(self):
        self.out(COMB, [1, HALF, 5, HALF, 3, 4])
        self.out(U, [0, 0, 5, 0, 5, 2, 0, 2])
        self.out(U, box(HALF, HALF, Fraction(9, 2), Fraction(3, 2)))

    def test_round_all_of_f(self):
        for f in (U, TWO_LEGS, DART, COMB, SQUARE):
            self.out(f, WHOLE)
            self.out(f, box(-GREATEST, -GREATEST, GREATEST, GREATEST))

    def test_the_first_such(self):
        self.out(SQUARE, box(5, 5, 6, 6), 1, [LOWER])
        self.out(SQUARE, box(5, 5, 6, 6), 2, [LOWER, UPPER])
        row = part(LOWER) + part(box(3, 3, 4, 4)) + part(UPPER) + part(box(0, 0, 9, 9))
        self.assertEqual(why(SQUARE, SQUARE, row), [0, 2, 1, 0])
        self.assertEqual(why(SQUARE, SQUARE, part(WHOLE) * 3), [0, 2, 0, 0])
        many = [box(0, Fraction(k, 80), 2, Fraction(k + 1, 80)) for k in range(160)]
        self.assertEqual(why(SQUARE, SQUARE, sum(map(part, many), [])), [1])
        for place in (0, 1, 77, 159):
            changed = many[:place] + [slid(many[place], LEAST_PART, 0)] + many[place + 1:]
            self.assertEqual(why(SQUARE, SQUARE, sum(map(part, changed), [])), [0, 2, place, 0])


class NotAllInSecond(unittest.TestCase):
    def test_moved_out(self):
        for by in (1, 9, GREATEST, LEAST_PART):
            for right, up in ((by, 0), (-by, 0), (0, by), (0, -by), (by, by)):
                self.assertEqual(why(SQUARE, SQUARE, part(SQUARE, 0, right, up)), [0, 3, 0, 0])
                self.assertEqual(why(SQUARE, SQUARE, part(SQUARE, 1, 2 + right, 2 + up)), [0, 3, 0, 0])

    def test_turned_out(self):
        self.assertEqual(why(SQUARE, SQUARE, part(SQUARE, 1)), [0, 3, 0, 0])
        self.assertEqual(why(SQUARE, slid(SQUARE, 1, 1), part(SQUARE, 1, 2, 2)), [0, 3, 0, 0])
        triangle = [0, 0, 3, 0, 0, 3]
        self.assertEqual(why(triangle, triangle, part(triangle, 1, 3, 3)), [0, 3, 0, 0])

    def test_first_turned_and_then_slid(self):
        self.assertEqual(why(SQUARE, slid(SQUARE, 3, 5), part(SQUARE, 1, 5, 7)), [1])
        self.assertEqual(why(SQUARE, slid(SQUARE, 3, 5), part(SQUARE, 1, -5, -7)), [0, 3, 0, 0])

    def test_another_figure(self):
        self.assertEqual(why(SQUARE, LONG, part(SQUARE)), [0, 3, 0, 0])
        self.assertEqual(why(SQUARE, LONG, part(LOWER) + part(UPPER)), [0, 3, 1, 0])
        self.assertEqual(why(TWELVE, TWO_LEGS, part(box(0, 0, 4, 3))), [0, 3, 0, 0])
        self.assertEqual(why(TWELVE, TWO_LEGS, part(box(0, 0, 4, 3), 0, 0, 1)), [0, 3, 0, 0])

    def test_the_first_such(self):
        row = part(LOWER) + part(UPPER, 0, 1, 0) + part(UPPER, 0, 0, 9)
        self.assertEqual(why(SQUARE, SQUARE, row), [0, 3, 1, 0])

    def test_behind_one_that_is_not_all_in_first(self):
        # A later part that isn't in f is told ahead of an earlier one that's moved out of g.
        row = part(LOWER, 0, 9, 9) + part(box(0, 1, 2, 3))
        self.assertEqual(why(SQUARE, SQUARE, row), [0, 2, 1, 0])


class InCommon(unittest.TestCase):
    def test_a_part_twice(self):
        self.assertEqual(why(SQUARE, SQUARE, part(LOWER) * 2), [0, 4, 0, 1])
        self.assertEqual(why(SQUARE, SQUARE, part(LOWER) + part(UPPER) + part(LOWER)), [0, 4, 0, 2])
        self.assertEqual(why(SQUARE, SQUARE, part(LOWER) + part(UPPER) * 2), [0, 4, 1, 2])
        self.assertEqual(why(SQUARE, LONG, part(LOWER) + part(LOWER, 0, 2, 0)), [0, 4, 0, 1])
        self.assertEqual(why(SQUARE, SQUARE, part(begun_at(LOWER, 1)) + part(begun_at(LOWER, 3))), [0, 4, 0, 1])

    def test_one_within_another(self):
        self.assertEqual(why(SQUARE, SQUARE, part(SQUARE) + part(box(HALF, HALF, 1, 1))), [0, 4, 0, 1])
        self.assertEqual(why(SQUARE, SQUARE, part(box(HALF, HALF, 1, 1)) + part(SQUARE)), [0, 4, 0, 1])

    def test_across_one_another_without_a_corner_within(self):
        self.assertEqual(why(NINE, NINE, part(box(0, 1, 3, 2)) + part(box(1, 0, 2, 3))), [0, 4, 0, 1])
        self.assertEqual(why(NINE, NINE, part([0, 0, 3, 0, 0, 3]) + part([3, 3, 0, 3, 0, 0])), [0, 4, 0, 1])

    def test_by_very_little(self):
        for by in (LEAST_PART, Fraction(1, 2 ** 255)):
            self.assertEqual(why(SQUARE, SQUARE, part(box(0, 0, 2, 1 + by)) + part(UPPER)), [0, 4, 0, 1])
            self.assertEqual(why(SQUARE, SQUARE, part(LOWER) + part(box(0, 1 - by, 2, 2))), [0, 4, 0, 1])
            self.assertEqual(why(SQUARE, SQUARE, part([0, 0, 2, 0, 0, 2]) + part([2, 2, 0, 2, 2, 0])), [1])
            self.assertEqual(why(SQUARE, SQUARE, part([0, 0, 2, 0, 0, 2]) + part([2, 2, 0, 2 - by, 2, 0])), [0, 4, 0, 1])

    def test_parts_that_only_touch(self):
        for one, other in ((LOWER, UPPER), (box(0, 0, 1, 1), box(1, 1, 2, 2)), (box(0, 0, 1, 1), box(1, 0, 2, 2)),
                           (box(0, 0, 1, 1), [1, 1, 2, 0, 2, 2]), ([0, 0, 2, 0, 1, 1], [1, 1, 2, 2, 0, 2]),
                           ([0, 0, 2, 0, 1, 1], box(0, 1, 2, 2))):
            row = part(one) + part(other)
            self.assertIn(why(SQUARE, SQUARE, row), ([1], [0, 6, 0, 0]))
            self.assertEqual(why(SQUARE, SQUARE, row), reckon.why(SQUARE, SQUARE, reckon.handed(row)))

    def test_the_first_two(self):
        # The pairs that have something in common: 0 and 3; 1 and 2.
        row = part(box(0, 0, 1, 1)) + part(box(2, 2, 3, 3)) + part(box(2, 1, 3, 3)) + part(box(0, 0, 1, 2))
        self.assertEqual(why(NINE, NINE, row), [0, 4, 0, 3])
        # 1 and 2, 1 and 3, 2 and 3.
        row = part(box(0, 0, 1, 1)) + part(box(2, 2, 3, 3)) * 3
        self.assertEqual(why(NINE, NINE, row), [0, 4, 1, 2])
        # 0 and 2, 1 and 2.
        row = part(box(0, 0, 1, 1)) + part(box(1, 0, 2, 1)) + part(box(0, 0, 2, 2))
        self.assertEqual(why(NINE, NINE, row), [0, 4, 0, 2])

    def test_the_last_two_of_many(self):
        many = [box(0, Fraction(k, 80), 2, Fraction(k + 1, 80)) for k in range(159)]
        row = sum(map(part, many), [])
        self.assertEqual(why(SQUARE, SQUARE, row + part(many[158])), [0, 4, 158, 159])
        self.assertEqual(why(SQUARE, SQUARE, row + part(many[0])), [0, 4, 0, 159])


class InCommonMoved(unittest.TestCase):
    def test_moved_to_one_place(self):
        self.assertEqual(why(SQUARE, SQUARE, part(LOWER) + part(UPPER, 0, 0, -1)), [0, 5, 0, 1])
        self.assertEqual(why(SQUARE, SQUARE, part(LOWER, 1, 2, 2) + part(UPPER)), [0, 5, 0, 1])
        self.assertEqual(why(SQUARE, LONG, part(LOWER) + part(UPPER, 0, 1, -1)), [0, 5, 0, 1])

    def test_by_very_little(self):
        for by in (LEAST_PART, Fraction(1, 2 ** 255)):
            self.assertEqual(why(SQUARE, LONG, part(LOWER) + part(UPPER, 0, 2 - by, -1)), [0, 5, 0, 1])
            self.assertEqual(why(SQUARE, LONG, part(LOWER) + part(box(0, 1, 2 - by, 2), 0, 2, -1)), [0, 6, 0, 0])

    def test_the_first_two(self):
        quarters = (box(0, 0, 1, 1), box(1, 0, 2, 1), box(0, 1, 1, 2), box(1, 1, 2, 2))
        moves = {
            (0, 3): ((0, 0, 0), (0, 0, 1), (0, 1, 0), (0, -1, -1)),
            (1, 2): ((0, 1, 0), (0, -1, 0), (0, 0, -1), (0, 0, 0)),
            (2, 3): ((0, 0, 0), (0, 0, 0), (0, 0, 0), (0, -1, 0)),
            (0, 1): ((0, 1, 0), (0, 0, 0), (0, 0, 0), (0, -1, 0)),
        }
        for pair, ways in moves.items():
            row = sum([part(one, *way) for one, way in zip(quarters, ways)], [])
            self.assertEqual(why(SQUARE, SQUARE, row), [0, 5, *pair])

    def test_behind_two_in_common_in_f(self):
        thirds = (box(0, 0, 3, 1), box(0, 1, 3, 2))
        row = part(thirds[0]) + part(thirds[1], 0, 0, -1) + part(thirds[1], 0, 0, 1)
        self.assertEqual(why(NINE, NINE, row), [0, 4, 1, 2])


class LeftOut(unittest.TestCase):
    def test_no_parts(self):
        for figure in (SQUARE, U, WHOLE, COMB):
            self.assertEqual(why(figure, figure, []), [0, 6, 0, 0])

    def test_a_part_left_out(self):
        for w, f, g in PAIRS:
            cutting = reckon.handed(between(w, f, g)[1:])
            for k in range(len(cutting)):
                self.assertEqual(why(f, g, row_of(cutting[:k] + cutting[k + 1:])), [0, 6, 0, 0])

    def test_very_little(self):
        for by in (LEAST_PART, Fraction(1, 2 ** 255), HALF):
            self.assertEqual(why(SQUARE, SQUARE, part(LOWER) + part(box(0, 1, 2, 2 - by))), [0, 6, 0, 0])
            self.assertEqual(why(SQUARE, SQUARE, part(box(0, 0, 2, 1 - by)) + part(UPPER)), [0, 6, 0, 0])
            self.assertEqual(why(SQUARE, SQUARE, part([by, 0, 2, 0, 2, 2, 0, 2, 0, by])), [0, 6, 0, 0])
        self.assertEqual(why(U, U, part(box(0, 0, 1, 3)) + part(box(4, 0, 5, 3))), [0, 6, 0, 0])


class WhichFault(unittest.TestCase):
    """Each fault together with later ones, of parts of two squares of size 9."""

    F = NINE
    G = slid(NINE, 10, 0)
    FAULTS = {
        2: part(box(2, 2, 4, 3), 0, 10, 0),
        3: part(box(1, 0, 2, 1), 0, 10, 5),
        4: part(box(0, 0, 1, 1), 0, 12, 2) * 2,
        5: part(box(0, 2, 1, 3), 0, 10, 0) + part(box(1, 1, 2, 2), 0, 9, 1),
        6: [],
    }
    PLACES = {2: 1, 3: 1, 4: 2, 5: 2, 6: 0}

    def test_alone_and_with_later_ones(self):
        for chosen in range(1, 32):
            kinds = [kind for kind in self.FAULTS if chosen >> (kind - 2) & 1]
            for order in (kinds, kinds[::-1]):
                row = sum([self.FAULTS[kind] for kind in order], [])
                answer = why(self.F, self.G, row)
                self.assertEqual(answer[:2], [0, kinds[0]])
                self.assertEqual(answer, reckon.why(self.F, self.G, reckon.handed(row)))
                self.assertEqual(why(self.F, slid(SQUARE, 10, 0), row), [0, 1, 0, 0])
                self.assertEqual(len(answer), 4)

    def test_each_alone_with_all_the_rest_right(self):
        cells = [box(x, y, x + 1, y + 1) for x in range(3) for y in range(3)]
        good = [part(cell, 0, 10, 0) for cell in cells]
        self.assertEqual(why(self.F, self.G, sum(good, [])), [1])
        for k in range(9):
            for kind, changed in (
                (2, part(slid(cells[k], 20, 0), 0, -10, 0)),
                (3, part(cells[k], 0, 20, 0)),
                (6, []),
            ):
                row = sum(good[:k] + [changed] + good[k + 1:], [])
                self.assertEqual(why(self.F, self.G, row), [0, kind, 0 if kind == 6 else k, 0])
            j = (k + 4) % 9
            first, second = min(j, k), max(j, k)
            moved_alike = part(cells[k], 0, 10 + cells[j][0] - cells[k][0], cells[j][1] - cells[k][1])
            row = sum(good[:k] + [moved_alike] + good[k + 1:], [])
            self.assertEqual(why(self.F, self.G, row), [0, 5, first, second])
            twice = part(cells[j], 0, 10 + cells[k][0] - cells[j][0], cells[k][1] - cells[j][1])
            row = sum(good[:k] + [twice] + good[k + 1:], [])
            self.assertEqual(why(self.F, self.G, row), [0, 4, first, second])


class Compared(unittest.TestCase):
    """With the tests' own reckoning, for many rows."""

    def compare_one_part(self, numbers, f, width):
        """A part that's so many halves wide and high at most; the fault's number is answered."""
        right, up = Fraction(numbers.below(13 - width), 2), Fraction(numbers.below(13 - width), 2)
        piece = [(x + right, y + up) for x, y in random_piece(numbers, width, 2)]
        cutting = [(piece, (0, 0, 0))]
        wanted = reckon.why(f, f, cutting)
        self.assertEqual(why(f, f, row_of(cutting)), wanted, (f, piece))
        return wanted[1]

    def test_one_part_in_a_figure(self):
        numbers = Numbers(11)
        found = {2: 0, 6: 0}
        for count in (3, 4, 5, 6, 7, 8):
            for _ in range(25):
                f = random_figure(numbers, count, 6)
                for width in (1, 1, 2, 3, 6, 12):
                    found[self.compare_one_part(numbers, f, width)] += 1
        self.assertGreater(min(found.values()), 80)

    def test_two_parts(self):
        numbers = Numbers(13)
        found = {4: 0, 6: 0}
        f = box(0, 0, 8, 8)
        for _ in range(700):
            cutting = []
            for _ in range(2):
                right, up = numbers.below(5), numbers.below(5)
                cutting.append(([(x + right, y + up) for x, y in random_piece(numbers, 4)], (0, 0, 0)))
            wanted = reckon.why(f, f, cutting)
            found[wanted[1]] += 1
            self.assertEqual(why(f, f, row_of(cutting)), wanted, cutting)
        self.assertGreater(min(found.values()), 100)

    def changed(self, numbers, cutting):
        """A right cutting with one part or two made otherwise."""
        cutting = list(cutting)
        k, j = numbers.below(len(cutting)), numbers.below(len(cutting))
        piece, (turn, right, up) = cutting[k]
        by = numbers.one_of((LEAST_PART, -LEAST_PART, HALF, -HALF, Fraction(1), Fraction(-2)))
        way = numbers.below(7)
        if way == 0:
            cutting[k] = (piece, (turn, right + by, up))
        elif way == 1:
            cutting[k] = (piece, (1 - turn, right, up))
        elif way == 2:
            cutting[k] = ([(x + by, y) for x, y in piece], (turn, right, up + by))
        elif way == 3:
            cutting[k] = cutting[j]
        elif way == 4:
            cutting[k] = (piece, cutting[j][1])
        elif way == 5:
            cutting[k] = (piece[1:], (turn, right, up)) if len(piece) > 3 else cutting[k]
        else:
            cutting[k], cutting[j] = (piece, cutting[j][1]), (cutting[j][0], cutting[k][1])
        return numbers.mixed(cutting)

    def test_what_between_answers_with_something_changed(self):
        numbers = Numbers(14)
        found = {kind: 0 for kind in range(2, 7)}
        for w, f, g in PAIRS:
            cutting = reckon.handed(between(w, f, g)[1:])
            for _ in range(40 if len(cutting) < 20 else 4):
                row = row_of(self.changed(numbers, cutting))
                if max(map(abs, row)) <= GREATEST:
                    wanted = reckon.why(f, g, reckon.handed(row))
                    if len(wanted) > 1:
                        found[wanted[1]] += 1
                    self.assertEqual(why(f, g, row), wanted, (f, g, row))
        self.assertGreater(min(found.values()), 5)


if __name__ == "__main__":
    unittest.main()
