"""Promises 1 and 2: which parts fewer joins, in which order, and how they're told."""

import itertools
import unittest
from fractions import Fraction

import reckon
from helpers import (
    COMB, DART, GREATEST, KITE, LEAST_PART, LONG, NINE, OCTAGON, SQUARE, TWELVE, TWO_HORNS, TWO_LEGS, U, Numbers,
    arc, begun_at, box, part, random_piece, row_of, slid, turned,
)
from recutfigures.cuttings import between, fewer, why

HALF = Fraction(1, 2)
LEFT = box(0, 0, 1, 1)
RIGHT = box(1, 0, 2, 1)
BOTH = box(0, 0, 2, 1)
FAR = box(70, 70, 71, 71)


def parts_of(answer):
    """The parts of an answer, each as a row of numbers."""
    row, rows = answer[1:], []
    while row:
        end = 4 * row[0] + 6
        rows.append(row[:end])
        row = row[end:]
    assert len(rows) == answer[0]
    return rows


class Fewer(unittest.TestCase):
    def answered(self, parts, wanted):
        """Parts that are handed in, and those that are to be answered."""
        row = sum(parts, [])
        answer = [len(wanted)] + sum(wanted, [])
        self.assertEqual(reckon.fewer(row), answer)
        self.assertEqual(fewer(row), answer)
        self.assertEqual(parts_of(answer), wanted)

    def stay(self, parts):
        self.answered(parts, parts)

    def stay_both_ways(self, one, other):
        self.stay([part(one), part(other)])
        self.stay([part(other), part(one)])
        self.stay([part(other, 1, HALF, -3), part(one, 1, HALF, -3)])


class NothingToJoin(Fewer):
    def test_no_parts(self):
        self.assertEqual(fewer([]), [0])

    def test_a_single_part(self):
        for corners in (LEFT, [0, 0, 2, 0, 0, 2], begun_at(OCTAGON, 7), arc(40),
                        [0, LEAST_PART, GREATEST, 0, GREATEST, 1]):
            self.stay([part(corners)])
            self.stay([part(corners, 1, Fraction(-7, 3), GREATEST)])
            self.assertEqual(fewer(part(corners))[1:], part(corners))

    def test_a_single_part_begun_with_any_corner(self):
        for corners in (LEFT, [0, 0, 2, 0, 0, 2], begun_at(OCTAGON, 7), arc(40), [-3, 1, 0, 0, 0, 2],
                        [0, -LEAST_PART, 5, 0, LEAST_PART, 2, 0, 1]):
            for k in range(len(corners) // 2):
                self.answered([part(begun_at(corners, k), 1, HALF, 0)], [part(corners, 1, HALF, 0)])

    def test_begun_with_the_leftmost_of_like_ones_the_lowest(self):
        for corners in ([0, 0, 1, 0, 1, 1, 0, 1], [0, -5, 3, 0, 0, 5], [0, LEAST_PART, 3, 0, 0, 2 * LEAST_PART],
                        [-GREATEST, 7, 0, 0, -GREATEST, 8], [-LEAST_PART, 3, 0, 0, 9, 1, 0, 4]):
            for k in range(len(corners) // 2):
                self.answered([part(begun_at(corners, k))], [part(corners)])

    def test_parts_that_lie_apart(self):
        self.stay_both_ways(LEFT, FAR)
        self.stay_both_ways(LEFT, box(1 + LEAST_PART, 0, 2, 1))
        self.stay_both_ways(LEFT, box(2, 0, 3, 1))

    def test_parts_that_touch_in_a_point(self):
        self.stay_both_ways(LEFT, box(1, 1, 2, 2))
        self.stay_both_ways(LEFT, [1, HALF, 2, 0, 2, 1])
        self.stay_both_ways([0, 0, 1, 1, 0, 2], [1, 1, 2, 0, 2, 2])

    def test_parts_that_touch_in_part_of_a_side(self):
        self.stay_both_ways(LEFT, box(1, 0, 2, 2))
        self.stay_both_ways(LEFT, box(1, 0, 2, HALF))
        self.stay_both_ways(LEFT, box(1, HALF, 2, Fraction(3, 2)))
        self.stay_both_ways(LEFT, box(1, -1, 2, 2))
        self.stay_both_ways(LEFT, box(1, LEAST_PART, 2, 1))
        self.stay_both_ways(LEFT, box(1, 0, 2, 1 - LEAST_PART))

    def test_a_whole_side_where_both_make_no_piece(self):
        self.stay_both_ways(LEFT, [1, 0, 2, -1, 2, 2, 1, 1])
        self.stay_both_ways(LEFT, [1, 0, 2, 0, 2, 2, 1, 1])
        self.stay_both_ways(LEFT, [1, 0, 2, -1, 2, 1, 1, 1])
        self.stay_both_ways(LEFT, [1, 0, 2, -LEAST_PART, 2, 1, 1, 1])
        self.stay_both_ways(LEFT, [1, 0, 2, 0, 2, 1 + LEAST_PART, 1, 1])
        self.stay_both_ways([0, 0, 2, 2, 0, 3], [0, 3, 2, 2, 6, 1, 6, 6])

    def test_moved_unlike(self):
        for one, other in itertools.permutations((
            (0, 0, 0), (0, 1, 0), (0, 0, 1), (0, LEAST_PART, 0), (0, 0, -LEAST_PART), (1, 0, 0), (1, 1, 0), (1, 2, 1),
            (0, 2, 1), (0, -1, 0), (1, 0, 1), (1, 0, LEAST_PART), (0, GREATEST, 0), (0, 0, GREATEST),
        ), 2):
            self.stay([part(LEFT, *one), part(RIGHT, *other)])
            self.answered([part(LEFT, *one), part(RIGHT, *one)], [part(BOTH, *one)])


class Overlapping(Fewer):
    """Parts that have a piece in common are not joined, and lie as they did."""

    def test_in_part(self):
        self.stay_both_ways(LEFT, box(HALF, 0, 2, 1))
        self.stay_both_ways(LEFT, box(1 - LEAST_PART, 0, 2, 1))
        self.stay_both_ways(BOTH, RIGHT)
        self.stay_both_ways([0, 0, 2, 0, 0, 2], [0, 0, 2, 0, 2, 2])
        self.stay_both_ways(box(0, 1, 3, 2), box(1, 0, 2, 3))

    def test_wholly(self):
        self.stay_both_ways(LEFT, box(HALF, HALF, Fraction(3, 4), Fraction(3, 4)))
        self.stay_both_ways(SQUARE, box(0, 0, 2, 1))
        self.stay([part(LEFT), part(LEFT)])
        self.stay([part(LEFT)] * 160)

    def test_the_same_part_begun_elsewhere(self):
        for k in range(4):
            for j in range(4):
                self.answered([part(begun_at(LEFT, k)), part(begun_at(LEFT, j))], [part(LEFT)] * 2)

    def test_one_of_two_that_lie_on_one_another(self):
        self.answered([part(LEFT), part(LEFT), part(RIGHT)], [part(BOTH), part(LEFT)])
        self.answered([part(LEFT), part(RIGHT), part(RIGHT)], [part(BOTH), part(RIGHT)])
        self.answered([part(LEFT), part(LEFT), part(RIGHT), part(RIGHT)], [part(BOTH), part(BOTH)])

    def test_where_they_are_moved_to_makes_nothing_out(self):
        self.stay([part(LEFT), part(box(5, 0, 6, 1), 0, -4, 0)])
        self.answered([part(LEFT, 1, 3, 3), part(FAR, 1, 3, 3), part(RIGHT, 1, 3, 3)],
                      [part(BOTH, 1, 3, 3), part(FAR, 1, 3, 3)])


class TwoThatMakeOne(Fewer):
    def joined(self, one, other, whole):
        """Begun with any corner, in either order, moved by any move."""
        for k in range(len(one) // 2):
            for j in range(len(other) // 2):
                first, second = begun_at(one, k), begun_at(other, j)
                self.answered([part(first), part(second)], [part(whole)])
                self.answered([part(second), part(first)], [part(whole)])
        for move in ((1, 0, 0), (0, Fraction(5, 3), -9), (1, -GREATEST, LEAST_PART)):
            self.answered([part(one, *move), part(other, *move)], [part(whole, *move)])

    def test_a_straight_corner_at_both_ends(self):
        self.joined(LEFT, RIGHT, BOTH)
        self.joined(LEFT, box(0, 1, 1, 7), box(0, 0, 1, 7))
        self.joined([0, 0, 1, 2, 1, 4, 0, 2], [1, 2, 3, 6, 3, 8, 1, 4], [0, 0, 3, 6, 3, 8, 0, 2])

    def test_a_straight_corner_at_one_end(self):
        self.joined([0, 0, 1, 0, 0, 3], [1, 0, 2, 0, 0, 3], [0, 0, 2, 0, 0, 3])
        self.joined(LEFT, [1, 0, 2, 0, 1, 1], [0, 0, 2, 0, 1, 1, 0, 1])
        self.joined(LEFT, [1, 0, 2, 1, 1, 1], [0, 0, 1, 0, 2, 1, 0, 1])
        self.joined(LEFT, [1, 0, Fraction(3, 2), 0, 2, HALF, 1, 1], [0, 0, Fraction(3, 2), 0, 2, HALF, 1, 1, 0, 1])

    def test_a_straight_corner_at_neither_end(self):
        self.joined([0, 0, 2, 0, 0, 2], [2, 0, 2, 2, 0, 2], SQUARE)
        self.joined([0, 0, 3, 1, 4, 4], [0, 0, 4, 4, 1, 3], KITE)
        self.joined([-1, 1, 0, 0, 2, 0, 3, 1], [-1, 1, 3, 1, 3, 3, 2, 4, 0, 4, -1, 3], [-1, 1] + OCTAGON[:14])
        self.joined(LEFT, [1, 0, 2, LEAST_PART, 2, 1 - LEAST_PART, 1, 1],
                    [0, 0, 1, 0, 2, LEAST_PART, 2, 1 - LEAST_PART, 1, 1, 0, 1])

    def test_numbers_of_256_bits(self):
        low, high, cut = Fraction(-GREATEST, GREATEST - 1), Fraction(GREATEST - 2, GREATEST), Fraction(1, 2 ** 255)
        self.joined(box(low, low, cut, high), box(cut, low, high, high), box(low, low, high, high))
        far = GREATEST - 1
        self.joined([-far, -far, far, far, -far, far], [-far, -far, far, -far, far, far], box(-far, -far, far, far))
        self.joined([low, low, cut, low, cut, high], [low, low, cut, high, low, high], box(low, low, cut, high))

    def test_a_piece_of_more_corners_than_may_be_handed_in(self):
        below = [number for k in range(-20, 20) for number in (k, k * k)]
        above = below[:2] + below[-2:] + [19, 500, -20, 500]
        whole = below + [19, 500, -20, 500]
        answer = fewer(part(below) + part(above))
        self.assertEqual(answer, [1] + part(begun_at(whole, 0)))
        self.assertEqual(answer[1], 42)
        self.assertEqual(answer, reckon.fewer(part(below) + part(above)))

    def test_forty_corners_cut_off_one_by_one(self):
        whole = arc(40)
        fan = [part(whole[:2] + whole[k:k + 4]) for k in range(2, len(whole) - 2, 2)]
        self.assertEqual(len(fan), 38)
        self.answered(fan, [part(whole)])
        self.answered(fan[::-1], [part(whole)])


class Order(Fewer):
    def test_the_first_part_with_which_a_later_one_can_be_joined(self):
        # Three round a corner: one can be joined with either of the others, not with both.
        corner, beside, above = LEFT, RIGHT, box(0, 1, 1, 2)
        upright = box(0, 0, 1, 2)
        self.answered([part(corner), part(beside), part(above)], [part(BOTH), part(above)])
        self.answered([part(corner), part(above), part(beside)], [part(upright), part(beside)])
        self.answered([part(beside), part(corner), part(above)], [part(BOTH), part(above)])
        self.answered([part(above), part(corner), part(beside)], [part(upright), part(beside)])
        self.answered([part(beside), part(above), part(corner)], [part(BOTH), part(above)])
        self.answered([part(above), part(beside), part(corner)], [part(upright), part(beside)])

    def test_the_joined_piece_is_where_the_earlier_part_was(self):
        far, other = part(FAR), part(box(-9, -9, -8, -8), 1)
        self.answered([part(LEFT), far, part(RIGHT), other], [part(BOTH), far, other])
        self.answered([far, part(RIGHT), other, part(LEFT)], [far, part(BOTH), other])
        self.answered([far, other, part(LEFT), part(RIGHT)], [far, other, part(BOTH)])
        self.answered([part(RIGHT), far, other, part(LEFT)], [part(BOTH), far, other])

    def test_one_that_can_be_joined_only_after_another_joining(self):
        under, far = box(0, -1, 2, 0), part(FAR)
        whole = part(box(0, -1, 2, 1))
        for order in itertools.permutations((part(LEFT), part(RIGHT), part(under))):
            self.answered(list(order), [whole])
        self.answered([far, part(under), part(LEFT), part(FAR, 1), part(RIGHT)], [far, whole, part(FAR, 1)])
        self.answered([part(LEFT), far, part(under), part(RIGHT)], [whole, far])

    def test_an_earlier_one_ahead_of_a_later_one(self):
        # Once two are made one, a part ahead of them is looked at again first.
        under, over = box(0, -1, 2, 0), box(0, 1, 2, 2)
        beside = box(2, 0, 3, 1)
        self.answered([part(under), part(beside), part(LEFT), part(RIGHT)],
                      [part(under), part(box(0, 0, 3, 1))])
        self.answered([part(under), part(LEFT), part(RIGHT), part(beside)],
                      [part(box(0, -1, 2, 1)), part(beside)])
        self.answered([part(under), part(over), part(LEFT), part(RIGHT)], [part(box(0, -1, 2, 2))])
        self.answered([part(under, 1), part(over), part(LEFT), part(RIGHT)], [part(under, 1), part(box(0, 0, 2, 2))])

    def test_several_joinings_of_several_moves(self):
        moves = ((0, 0, 0), (1, 0, 0), (0, 1, 0))
        parts = [part(corners, *move) for corners in (LEFT, RIGHT, box(2, 0, 3, 1)) for move in moves]
        self.answered(parts, [part(box(0, 0, 3, 1), *move) for move in moves])

    def test_a_row_of_squares(self):
        row = [part(box(k, 0, k + 1, 1)) for k in range(6)]
        for order in itertools.permutations(row[:5]):
            self.answered(list(order), [part(box(0, 0, 5, 1))])
        self.answered(row, [part(box(0, 0, 6, 1))])
        self.answered(row[::2] + row[1::2], [part(box(0, 0, 6, 1))])

    def test_a_row_with_one_left_out(self):
        row = [part(box(k, 0, k + 1, 1)) for k in (0, 1, 3, 4, 5)]
        self.answered(row, [part(BOTH), part(box(3, 0, 6, 1))])
        self.answered(row[::-1], [part(box(3, 0, 6, 1)), part(BOTH)])

    def test_a_long_row(self):
        row = [part(box(k, 0, k + 1, 1)) for k in range(160)]
        for parts in (row, row[::-1], row[::2] + row[1::2], Numbers(7).mixed(row)):
            self.assertEqual(fewer(sum(parts, [])), [1] + part(box(0, 0, 160, 1)))

    def test_a_grid_of_squares(self):
        grid = [part(box(x, y, x + 1, y + 1)) for y in range(3) for x in range(4)]
        self.answered(grid, [part(box(0, 0, 4, 3))])
        self.answered(grid[::-1], [part(box(0, 0, 4, 3))])

    def test_a_grid_in_any_order(self):
        numbers = Numbers(5)
        grid = [part(box(x, y, x + 1, y + 1)) for y in range(3) for x in range(3)]
        for _ in range(60):
            row = sum(numbers.mixed(grid), [])
            answer = fewer(row)
            self.assertEqual(answer, reckon.fewer(row))
            self.assertEqual(why(NINE, NINE, answer[1:]), [1])

    def test_the_same_parts_in_another_order(self):
        numbers = Numbers(6)
        # Nine of sixteen squares: how many are left hangs on the order.
        grid = [part(box(x, y, x + 1, y + 1)) for y in range(4) for x in range(4)]
        changed = 0
        for _ in range(30):
            chosen = numbers.mixed(grid)[:9]
            answers = []
            for _ in range(5):
                row = sum(numbers.mixed(chosen), [])
                answers.append(fewer(row))
                self.assertEqual(answers[-1], reckon.fewer(row))
            changed += len(set([answer[0] for answer in answers])) > 1
        self.assertGreater(changed, 5)


class Compared(unittest.TestCase):
    """With the tests' own reckoning, for many rows."""

    def halves(self, piece, numbers):
        """A piece cut from a corner to the middle of a side, or to another corner."""
        count = len(piece)
        first = numbers.below(count)
        around = piece[first:] + piece[:first]
        end = 1 + numbers.below(count - 2)
        if numbers.below(2) and count > 3:
            end = 2 + numbers.below(count - 3)
            return [around[:end + 1], around[end:] + around[:1]]
        (x, y), (right, up) = around[end], around[end + 1]
        middle = ((x + right) / 2, (y + up) / 2)
        return [around[:end + 1] + [middle], [middle] + around[end + 1:] + around[:1]]

    def test_pieces_cut_at_random(self):
        numbers = Numbers(21)
        counts = set()
        for _ in range(150):
            pieces = [reckon.hull(random_piece(numbers, 6))]
            for _ in range(1 + numbers.below(8)):
                cut = numbers.below(len(pieces))
                pieces[cut:cut + 1] = self.halves(pieces[cut], numbers)
            moves = [(numbers.below(2), Fraction(numbers.below(2)), Fraction(0)) for _ in range(2)]
            cutting = [(piece, moves[0] if numbers.below(8) else moves[1]) for piece in numbers.mixed(pieces)]
            row = row_of(cutting)
            answer = fewer(row)
            self.assertEqual(answer, reckon.fewer(row), row)
            counts.add((len(cutting), answer[0]))
        self.assertGreater(len(counts), 15)
        self.assertTrue(any(many > few > 1 for many, few in counts))

    def test_pieces_anywhere(self):
        numbers = Numbers(22)
        found = [0, 0]
        for _ in range(400):
            cutting = []
            for _ in range(2 + numbers.below(5)):
                piece = random_piece(numbers, 2)
                right, up = numbers.below(2), numbers.below(2)
                cutting.append(([(x + right, y + up) for x, y in piece], (0, Fraction(0), Fraction(0))))
            row = row_of(cutting)
            answer = fewer(row)
            self.assertEqual(answer, reckon.fewer(row), row)
            found[answer[0] < len(cutting)] += 1
        self.assertGreater(min(found), 50)


class OfBetween(unittest.TestCase):
    PAIRS = (
        (2, SQUARE, SQUARE), (2, SQUARE, LONG), (3, LONG, SQUARE), (2, U, NINE), (3, TWO_LEGS, TWELVE),
        (4, TWELVE, TWO_HORNS), (1, TWO_HORNS, TWO_LEGS), (3, DART, turned(DART)), (2, COMB, slid(COMB, 4, 4)),
        (1, KITE, [0, 0, 8, 0, 0, 2]), (3, OCTAGON, turned(OCTAGON)), (4, [0, 0, 3, 0, 0, 3], [0, 0, 9, 0, 0, 1]),
    )

    def test_it_stays_as_it_is(self):
        for w, f, g in self.PAIRS:
            with self.subTest(w=w, f=f, g=g):
                answer = between(w, f, g)
                self.assertEqual(fewer(answer[1:]), answer)

    def test_what_is_answered_stays_as_it_is(self):
        numbers = Numbers(31)
        for _ in range(100):
            row = row_of([(random_piece(numbers, 2), (0, 0, 0)) for _ in range(6)])
            answer = fewer(row)
            self.assertEqual(fewer(answer[1:]), answer)

    def test_a_right_cutting_stays_right(self):
        for w, f, g in self.PAIRS:
            with self.subTest(w=w, f=f, g=g):
                row = reckon.told(reckon.before_joined(w, f, g))[1:]
                self.assertEqual(why(f, g, row), [1])
                answer = fewer(row)
                self.assertEqual(answer, between(w, f, g))
                self.assertEqual(why(f, g, answer[1:]), [1])


if __name__ == "__main__":
    unittest.main()
