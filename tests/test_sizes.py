"""Promises 1 and 2: what sizes answers, how great each part is."""

import itertools
import time
import unittest
from fractions import Fraction

import reckon
from helpers import (
    GREATEST, KITE, LEAST_PART, OCTAGON, PAIRS, SQUARE, Numbers, arc, begun_at, box, fraction, part, random_piece,
    row_of, slid, turned,
)
from recutfigures.cuttings import between, fewer, sizes

HALF = Fraction(1, 2)
THIRD = Fraction(1, 3)
FAR = GREATEST - 1
LEFT = box(0, 0, 1, 1)
RIGHT = box(1, 0, 2, 1)
TRIANGLE = [0, 0, 1, 0, 0, 1]
SIX_BELOW = [HALF, THIRD, Fraction(16, 5), Fraction(2, 7), Fraction(12, 11), Fraction(30, 13)]


def may_be_handed_in(row):
    return len(row) <= 4000 and max(map(abs, row), default=0) <= GREATEST


def primes(count, above):
    found = []
    number = above
    while len(found) < count:
        number += 1
        if all(number % by for by in range(2, int(number ** 0.5) + 1)):
            found.append(number)
    return found


def forty_with_numbers_below(numbers):
    """A piece of forty corners near those of arc(40), each of the numbers below one of its fractions."""
    corners = []
    for at, below in zip(arc(40), numbers):
        corners.append(Fraction(at * below + 1, below))
    return corners


def as_long_as_can_be(numbers):
    """As many parts of forty corners as may be handed in, with numbers of 256 bits all over."""
    row = []
    while True:
        corners = []
        for k in range(-39, 40, 2):
            # Along a curve, from -39 / 41 to 39 / 41: so that what's above has no more bits than what's below.
            for along in (Fraction(k, 41), Fraction(k * k, 1600)):
                below = GREATEST - numbers.below(2 ** 31)
                corners.append(Fraction(int(along * below) + 1, below))
        more = part(corners, numbers.below(2), corners[1], corners[4])
        if len(row + more) > 4000:
            return row
        row += more


class Sizes(unittest.TestCase):
    def answered(self, parts, wanted):
        """Parts that are handed in, and how great each is."""
        row = sum(parts, [])
        self.assertTrue(may_be_handed_in(row))
        answer = [len(wanted)] + [number for size in wanted for number in fraction(size)]
        self.assertEqual(reckon.sizes(row), answer)
        self.assertEqual(sizes(row), answer)

    def as_great(self, corners, size):
        """Begun with any corner, slid, turned; moved by any move."""
        for k in range(len(corners) // 2):
            begun = begun_at(corners, k)
            self.answered([part(begun)], [size])
            self.answered([part(begun, 1, HALF, -3), part(begun, 0, -GREATEST, LEAST_PART)], [size] * 2)
            self.answered([part(turned(begun))], [size])
            for right, up in ((7, 0), (-THIRD, HALF), (1000, -1000)):
                elsewhere = slid(begun, right, up)
                if may_be_handed_in(part(elsewhere)):
                    self.answered([part(elsewhere, 1, right, up)], [size])
                    self.answered([part(turned(elsewhere))], [size])


class OnePart(Sizes):
    def test_whole(self):
        self.assertEqual(sizes(part(LEFT)), [1, 1, 1])
        self.assertEqual(sizes(part(box(0, 0, 3, 2))), [1, 6, 1])
        self.assertEqual(sizes(part([0, 0, 2, 0, 0, 2])), [1, 2, 1])
        self.assertEqual(sizes(part(box(-50, -50, 50, 50), 1)), [1, 10000, 1])
        self.as_great(LEFT, 1)
        self.as_great(SQUARE, 4)
        self.as_great(OCTAGON, 14)

    def test_whole_with_corners_that_are_not(self):
        self.as_great(box(THIRD, Fraction(1, 7), 1 + THIRD, Fraction(8, 7)), 1)
        self.as_great(box(0, 0, Fraction(2, 3), Fraction(3, 2)), 1)
        self.as_great([0, 0, Fraction(4, 3), 0, 0, Fraction(3, 2)], 1)
        self.as_great(box(0, 0, Fraction(GREATEST, FAR), Fraction(FAR, GREATEST)), 1)

    def test_a_half(self):
        self.assertEqual(sizes(part(TRIANGLE)), [1, 1, 2])
        self.assertEqual(sizes(part(box(0, 0, HALF, 1))), [1, 1, 2])
        self.assertEqual(sizes(part([0, 0, 3, 0, 0, 3])), [1, 9, 2])
        self.as_great(TRIANGLE, HALF)
        self.as_great([0, 0, 9, 0, 0, 1], Fraction(9, 2))
        self.as_great([0, 0, 2, 0, 1, 1, 0, 1], Fraction(3, 2))

    def test_nothing_in_common(self):
        self.assertEqual(sizes(part([0, 0, HALF, 0, HALF, 1])), [1, 1, 4])
        self.assertEqual(sizes(part(box(0, 0, HALF, HALF))), [1, 1, 4])
        self.assertEqual(sizes(part(box(0, 0, Fraction(3, 2), Fraction(2, 9)))), [1, 1, 3])
        self.assertEqual(sizes(part([0, 0, Fraction(6, 5), 0, 0, Fraction(10, 9)])), [1, 2, 3])
        self.assertEqual(sizes(part(box(0, 0, Fraction(6, 35), Fraction(35, 6)))), [1, 1, 1])

    def test_a_great_second_number(self):
        self.assertEqual(sizes(part([0, 0, 1, 0, 0, LEAST_PART])), [1, 1, 2 * GREATEST])
        self.assertEqual(sizes(part(box(0, 0, LEAST_PART, LEAST_PART))), [1, 1, GREATEST ** 2])
        self.as_great([0, 0, LEAST_PART, 0, 0, LEAST_PART], Fraction(1, 2 * GREATEST ** 2))
        self.as_great(box(0, 0, 1, Fraction(1, 2 ** 255)), Fraction(1, 2 ** 255))
        self.as_great([0, 0, Fraction(1, 3 ** 161), 0, 0, Fraction(1, 2 ** 255)], Fraction(1, 3 ** 161 * 2 ** 256))

    def test_a_great_first_number(self):
        side = 2 * GREATEST
        self.assertEqual(sizes(part(box(-GREATEST, -GREATEST, GREATEST, GREATEST))), [1, side ** 2, 1])
        self.answered([part([-GREATEST, -GREATEST, GREATEST, -GREATEST, GREATEST, GREATEST])], [side ** 2 // 2])
        self.answered([part([0, 0, GREATEST, 0, 0, 1])], [Fraction(GREATEST, 2)])

    def test_one_that_is_not_upright(self):
        self.as_great(KITE, 8)
        self.as_great([0, 0, 2, 0, 3, 2, 1, 2], 4)
        self.as_great([0, -1, 3, 0, 1, 4], 7)

    def test_forty_corners(self):
        # Between the side from 0, 0 to n, n * n and the n sides below it: n * n * n less n, over 6.
        self.as_great(arc(3), 1)
        self.as_great(arc(4), 4)
        self.as_great(arc(39), 9139)
        self.as_great(arc(40), 9880)


class NothingInCommonBelow(Sizes):
    """Fractions whose second numbers have nothing in common with one another."""

    def test_three_corners(self):
        (a, b), (c, d), (e, f) = zip(SIX_BELOW[::2], SIX_BELOW[1::2])
        size = ((c - a) * (f - b) - (e - a) * (d - b)) / 2
        self.assertEqual(size, Fraction(40232, 15015))
        self.as_great(SIX_BELOW, size)

    def test_two_sides_along(self):
        for one, other in itertools.permutations(primes(6, 1) + primes(2, 10 ** 6), 2):
            self.answered([part([0, 0, Fraction(1, one), 0, 0, Fraction(1, other)])], [Fraction(1, 2 * one * other)])

    def test_forty_corners(self):
        below = primes(80, 4000)
        corners = forty_with_numbers_below(below)
        answer = sizes(part(corners))
        self.assertEqual(answer, reckon.sizes(part(corners)))
        for prime in below:
            self.assertEqual(answer[2] % prime, 0)
        self.as_great(corners, Fraction(*answer[1:]))


class Great(Sizes):
    """Numbers of 256 bits."""

    def test_three_corners(self):
        corners = [
            Fraction(FAR, GREATEST), Fraction(-FAR, GREATEST), Fraction(GREATEST, FAR), Fraction(FAR, GREATEST - 2),
            Fraction(-GREATEST, FAR), Fraction(GREATEST, FAR),
        ]
        (a, b), (c, d), (e, f) = zip(corners[::2], corners[1::2])
        self.as_great(corners, ((c - a) * (f - b) - (e - a) * (d - b)) / 2)

    def test_by_very_little(self):
        for by in (LEAST_PART, Fraction(1, 2 ** 255)):
            self.answered([part(box(0, 0, 1, 1 - by)), part(box(0, -by, 1, 1 - by))], [1 - by, 1])
            self.answered([part([0, 0, 1, -by, 2, 0, 1, by])], [2 * by])

    def test_as_long_as_can_be_in_time(self):
        row = as_long_as_can_be(Numbers(61))
        self.assertEqual(row.count(40), 24)
        self.assertGreater(min([abs(number).bit_length() for number in row if abs(number) > 40]), 230)
        start = time.monotonic()
        answer = sizes(row)
        self.assertLess(time.monotonic() - start, 6)
        self.assertEqual(answer[0], 24)
        self.assertGreater(min([below.bit_length() for below in answer[2::2]]), 18000)
        self.assertTrue(answer == reckon.sizes(row))


class ManyParts(Sizes):
    def test_no_parts(self):
        self.assertEqual(sizes([]), [0])

    def test_in_the_order_of_the_parts(self):
        rows = [(LEFT, 1), (TRIANGLE, HALF), (box(0, 0, 2, 3), 6), (box(0, 0, THIRD, 1), THIRD)]
        for order in itertools.permutations(rows):
            self.answered([part(corners) for corners, _ in order], [size for _, size in order])

    def test_as_handed_in(self):
        self.answered([part(LEFT)] * 2, [1, 1])
        self.answered([part(LEFT), part(RIGHT)], [1, 1])
        self.assertEqual(fewer(part(LEFT) + part(RIGHT))[0], 1)
        self.answered([part(SQUARE), part(LEFT), part(TRIANGLE, 1), part(SQUARE)], [4, 1, HALF, 4])

    def test_the_move_makes_nothing_out(self):
        for turn in (0, 1):
            for right, up in ((0, 0), (HALF, -THIRD), (GREATEST, LEAST_PART)):
                self.answered([part(LEFT, turn, right, up), part(TRIANGLE, turn, right, up)], [1, HALF])

    def test_as_many_as_there_may_be(self):
        parts = [part(box(0, 0, Fraction(1, k + 1), 1)) for k in range(161)]
        self.answered(parts[:160], [Fraction(1, k + 1) for k in range(160)])
        self.assertEqual(sizes(sum(parts, [])), [-28])
        self.assertEqual(sizes(sum(parts, []) + [0]), [-22])

    def test_pieces_of_all_kinds(self):
        numbers = Numbers(62)
        for _ in range(150):
            cutting = []
            for _ in range(1 + numbers.below(9)):
                piece = random_piece(numbers, 1 + numbers.below(9), 1 + numbers.below(9))
                by = Fraction(numbers.below(9) - 4, 1 + numbers.below(9))
                cutting.append(([(x + by, y - by) for x, y in piece], (numbers.below(2), by, by)))
            self.answered([row_of(cutting)], [reckon.area(piece) for piece, _ in cutting])


class OfBetween(Sizes):
    def test_together_as_great_as_either_figure(self):
        for w, f, g in PAIRS:
            with self.subTest(w=w, f=f, g=g):
                row = between(w, f, g)[1:]
                answer = sizes(row)
                self.assertEqual(answer, reckon.sizes(row))
                whole = sum([Fraction(above, below) for above, below in zip(answer[1::2], answer[2::2])])
                self.assertEqual(whole, reckon.area(reckon.pairs(f)))
                self.assertEqual(whole, reckon.area(reckon.pairs(g)))

    def test_known_ones(self):
        # Told number by number in test_answers.
        self.answered([between(2, SQUARE, box(0, 0, 4, 1))[1:]], [1, 1, 1, 1])
        self.answered([between(2, [0, 0, 2, 0, 0, 2], box(0, 0, 2, 1))[1:]],
                      [Fraction(7, 8), Fraction(5, 8), Fraction(1, 8), Fraction(3, 8)])

    def test_taken_back_each_is_as_great(self):
        for w, f, g in PAIRS:
            with self.subTest(w=w, f=f, g=g):
                row = between(w, f, g)[1:]
                self.assertEqual(sizes(row_of(reckon.back(reckon.handed(row)))), sizes(row))


if __name__ == "__main__":
    unittest.main()
