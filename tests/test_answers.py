"""Promises 1 and 2: what's answered by between, number by number."""

import unittest

import reckon
from helpers import (
    COMB, DART, KITE, LONG, NINE, OCTAGON, SQUARE, TWELVE, TWO_HORNS, TWO_LEGS, U, Unchanging,
    slid, turned, upright,
)
from recutfigures.cuttings import between


def numbers(*rows):
    """Rows with halves and the like written as pairs, one behind another."""
    out = []
    for row in rows:
        for entry in row:
            if isinstance(entry, tuple):
                out.extend(entry)
            else:
                out.append(entry)
    return out


def whole(*values):
    return [(value, 1) for value in values]


class ByHand(unittest.TestCase):
    """Answers worked out on paper."""

    def test_square_to_itself(self):
        self.assertEqual(
            between(2, SQUARE, SQUARE),
            numbers([1, 4], whole(0, 0, 2, 0, 2, 2, 0, 2), [0], whole(0, 0)),
        )

    def test_square_to_itself_by_stairs(self):
        self.assertEqual(between(3, SQUARE, SQUARE), between(2, SQUARE, SQUARE))

    def test_square_to_what_is_longer(self):
        half, three = (1, 2), (3, 2)
        zero, one, two = whole(0, 1, 2)
        self.assertEqual(between(2, SQUARE, LONG), numbers(
            [4],
            [4, zero, zero, two, zero, two, half, zero, half, 0, zero, zero],
            [4, zero, half, two, half, two, one, zero, one, 0, two, (-1, 2)],
            [4, zero, three, two, three, two, two, zero, two, 0, two, (-1, 1)],
            [4, zero, one, two, one, two, three, zero, three, 0, zero, (-1, 2)],
        ))

    def test_triangle_to_what_is_upright(self):
        half, three = (1, 2), (3, 2)
        zero, one, two = whole(0, 1, 2)
        self.assertEqual(between(2, [0, 0, 2, 0, 0, 2], [0, 0, 2, 0, 2, 1, 0, 1]), numbers(
            [4],
            [4, zero, zero, two, zero, three, half, zero, half, 0, zero, zero],
            [4, zero, half, three, half, one, one, zero, one, 1, two, three],
            [3, zero, three, half, three, zero, two, 1, two, two],
            [4, zero, one, one, one, half, three, zero, three, 0, zero, (-1, 2)],
        ))

    def test_what_leans_to_what_is_upright(self):
        half, three, five = (1, 2), (3, 2), (5, 2)
        zero, one, two, four = whole(0, 1, 2, 4)
        self.assertEqual(between(4, [0, 0, 2, 0, 3, 2, 1, 2], LONG), numbers(
            [6],
            [4, zero, zero, two, zero, (9, 4), half, (1, 4), half, 0, zero, zero],
            [4, (1, 4), half, (9, 4), half, five, one, half, one, 1, four, three],
            [4, one, three, (11, 4), three, (3, 1), two, one, two, 1, (5, 1), two],
            [4, one, one, five, one, (11, 4), three, one, three, 0, (-1, 1), (-1, 2)],
            [3, (3, 4), three, one, three, one, two, 1, one, two],
            [4, half, one, one, one, one, three, (3, 4), three, 0, (3, 1), (-1, 2)],
        ))

    def test_slid(self):
        self.assertEqual(
            between(3, SQUARE, slid(SQUARE, -7, 5)),
            numbers([1, 4], whole(0, 0, 2, 0, 2, 2, 0, 2), [0], whole(-7, 5)),
        )


class Checked(unittest.TestCase):
    def check(self, w, f, g):
        """The answer, once it's as the tests reckon and a right cutting."""
        with self.subTest(w=w, f=f, g=g):
            answer = between(w, f, g)
            self.assertEqual(answer, reckon.between(w, f, g))
            self.assertGreater(answer[0], 0)
            cutting = reckon.read(answer)
            self.assertEqual(len(cutting), answer[0])
            self.assertEqual(reckon.why(f, g, cutting), [1])
            for number in answer:
                self.assertIs(type(number), int)
            return cutting


class Same(Checked):
    def test_f_and_g_the_same(self):
        for figure in (SQUARE, U, TWO_LEGS, TWO_HORNS, DART, KITE, OCTAGON, COMB):
            for w in (2, 3, 5):
                for piece, move in self.check(w, figure, figure):
                    self.assertEqual(move, (0, 0, 0))

    def test_begun_at_another_corner(self):
        for start in range(0, len(DART), 2):
            self.assertEqual(between(3, DART, DART[start:] + DART[:start]), between(3, DART, DART))

    def test_one_slid(self):
        for figure in (SQUARE, U, DART, KITE, TWO_HORNS):
            for piece, move in self.check(2, figure, slid(figure, 11, -4)):
                self.assertEqual(move, (0, 11, -4))

    def test_one_turned_half_round(self):
        for figure in (SQUARE, U, DART, KITE, TWO_LEGS):
            self.check(2, figure, turned(figure))
            self.check(3, slid(turned(figure), 5, 1), figure)

    def test_one_turned_by_a_quarter(self):
        for figure in (LONG, TWO_LEGS, DART, KITE):
            self.check(3, figure, upright(figure))


class Slices(Checked):
    def test_more_than_one_slice_at_a_height(self):
        for w in (1, 2, 3, 7):
            self.check(w, U, NINE)
            self.check(w, NINE, U)

    def test_slices_with_a_point_below_or_above(self):
        for w in (1, 3, 4, 10):
            self.check(w, TWO_LEGS, TWELVE)
            self.check(w, TWELVE, TWO_HORNS)
            self.check(w, TWO_HORNS, TWO_LEGS)

    def test_many_slices(self):
        for w in (2, 4):
            self.check(w, COMB, COMB[2:] + COMB[:2])
            self.check(w, COMB, upright(COMB))

    def test_slices_that_lean_far(self):
        for f in ([0, 0, 1, 0, 9, 1, 8, 1], [0, 1, 8, 0, 9, 0, 1, 1], [0, 0, 9, 1, 8, 1]):
            self.check(1, f, slid(f, 1, 1))
            self.check(2, f, turned(f))
        self.check(1, [0, 0, 1, 0, 9, 1, 8, 1], [0, 1, 8, 0, 9, 0, 1, 1])

    def test_order_along_a_height_is_that_at_half_height(self):
        # Three sides meet at 0, 0 and three at 0, 4 as seen level: only between
        # is it told which is the more to the left.
        self.check(4, [0, 0, 3, 2, 0, 4, 1, 2], [0, 0, 2, 0, 2, 2, 0, 2])
        self.check(4, [-6, 0, 6, 6, -6, 6, 0, 5], turned([-6, 0, 6, 6, -6, 6, 0, 5]))


class Widths(Checked):
    """The lower and the upper side of LONG are 8 together, those of SQUARE 4."""

    def test_just_as_wide(self):
        self.check(8, LONG, SQUARE)
        self.check(4, SQUARE, LONG)

    def test_wider_by_a_whole_number_of_times(self):
        for w in (1, 2, 4):
            self.check(w, LONG, SQUARE)

    def test_wider_by_another_number_of_times(self):
        for w in (3, 5, 6, 7):
            self.check(w, LONG, SQUARE)

    def test_narrower_by_a_whole_number_of_times(self):
        for w in (8, 12, 16, 20):
            self.check(w, SQUARE, LONG)

    def test_narrower_by_another_number_of_times(self):
        for w in (9, 11, 13, 15, 17, 19):
            self.check(w, SQUARE, LONG)

    def test_figures_that_are_not_upright(self):
        for w in range(1, 9):
            self.check(w, KITE, [0, 0, 8, 0, 0, 2])
            self.check(w, DART, [0, 0, 3, 0, 3, 2, 0, 2])

    def test_halves(self):
        for w in (1, 4, 9, 20):
            self.check(w, [0, 0, 3, 0, 0, 3], [0, 0, 9, 0, 0, 1])

    def test_figures_at_the_edge(self):
        self.check(20, [-50, -50, 50, -50, -50, 50], [-50, -25, 50, -25, 50, 25, -50, 25])
        self.check(20, [-50, -50, 50, -50, 50, 50], [-50, 50, -50, -50, 50, 50])


class Joined(Checked):
    def test_the_first_with_the_first_later_one(self):
        def last(pair):
            return (-pair[0], -pair[1])

        def last_later(pair):
            return (pair[0], -pair[1])

        def first_later(pair):
            return (pair[1], pair[0])

        dent = [2, 0, -1, 1, -1, 0, -3, -2]
        arrow = [-2, -3, 3, 2, -1, 4, -1, 2]
        for w, f, order in ((3, dent, last), (3, dent, last_later), (8, arrow, first_later)):
            g = slid(f, 1, 1)
            parts = reckon.before_joined(w, f, g)
            self.assertNotEqual(reckon.told(reckon.join(parts)), reckon.told(reckon.join(parts, order)))
            self.check(w, f, g)

    def test_again_and_again(self):
        parts = reckon.before_joined(3, SQUARE, SQUARE)
        self.assertEqual(len(parts), 5)
        self.assertEqual(between(3, SQUARE, SQUARE)[0], 1)

    def test_none_is_left_that_could_be(self):
        for w, f, g in ((2, U, NINE), (3, TWO_LEGS, TWELVE), (1, KITE, [0, 0, 8, 0, 0, 2]), (2, DART, DART)):
            cutting = reckon.read(between(w, f, g))
            for i, (piece, move) in enumerate(cutting):
                for other, also in cutting[i + 1:]:
                    if move == also:
                        self.assertEqual(reckon.one_piece(piece, other), [])


class HandedIn(unittest.TestCase):
    CASES = (
        (2, SQUARE, LONG),
        (3, U, NINE),
        (2, DART, DART),
        (0, SQUARE, LONG),
        (2, SQUARE, [0, 0, 1]),
        (2, SQUARE, NINE),
        (1, [0, 0, 31, 0, 30, 1, 0, 1], [0, 0, 31, 0, 30, 1, 0, 1]),
    )

    def test_it_stays_as_it_was(self):
        for w, f, g in self.CASES:
            with self.subTest(w=w, f=f, g=g):
                one, other = Unchanging(f), Unchanging(g)
                between(w, one, other)
                self.assertEqual((list(one), list(other)), (f, g))

    def test_the_same_list_twice(self):
        row = Unchanging(DART)
        self.assertEqual(between(2, row, row), between(2, list(DART), list(DART)))

    def test_a_second_call_answers_as_the_first(self):
        first = [between(w, list(f), list(g)) for w, f, g in self.CASES]
        second = [between(w, list(f), list(g)) for w, f, g in reversed(self.CASES)]
        self.assertEqual(first, second[::-1])

    def test_an_answer_is_kept_nowhere(self):
        answer = between(2, SQUARE, LONG)
        copy = list(answer)
        answer.clear()
        self.assertEqual(between(2, SQUARE, LONG), copy)
        refusal = between(0, SQUARE, LONG)
        refusal.append(7)
        self.assertEqual(between(0, SQUARE, LONG), [-22])

    def test_answers_are_plain_lists(self):
        for w, f, g in self.CASES:
            self.assertIs(type(between(w, f, g)), list)


if __name__ == "__main__":
    unittest.main()
