"""Promise 2, over the whole program: what between answers is right, and what is made of it is too."""

import itertools
import unittest
from fractions import Fraction

import reckon
from helpers import (
    COMB, DART, GREATEST, NINE, PAIRS, SQUARE, TWELVE, TWO_HORNS, TWO_LEGS, U, Numbers, begun_at, box,
    random_figure, row_of, turned,
)
from recutfigures.cuttings import between, fewer, sizes, slid, why

MOST_NUMBERS = 4000


def is_convex(figure):
    corners = reckon.pairs(figure)
    return len(reckon.hull(corners)) == len(corners)


def pairs_of_one_size(numbers, tries, width):
    """Figures of 3 to 8 corners, two by two of one size."""
    alone = {}
    for k in range(tries):
        figure = random_figure(numbers, 3 + k % 6, width)
        size = reckon.area(reckon.pairs(figure))
        if size in alone:
            yield alone.pop(size), figure
        else:
            alone[size] = figure


def whole_of(answer):
    """How great all parts are together, from what sizes answers."""
    assert len(answer) == 1 + 2 * answer[0]
    return sum([Fraction(above, below) for above, below in zip(answer[1::2], answer[2::2])])


class Holds(unittest.TestCase):
    def is_right(self, f, g, row):
        """One way and taken back the other; joined too; all its parts counted."""
        back = row_of(reckon.back(reckon.handed(row)))
        for one, other, cutting in ((f, g, row), (g, f, back)):
            self.assertLessEqual(len(cutting), MOST_NUMBERS)
            self.assertLessEqual(max(map(abs, cutting)), GREATEST)
            self.assertEqual(why(one, other, cutting), [1], (one, other, cutting))
            joined = fewer(cutting)
            self.assertEqual(why(one, other, joined[1:]), [1], (one, other, cutting))
            self.assertLessEqual(joined[0], sizes(cutting)[0])
            for parts in (cutting, joined[1:]):
                self.assertEqual(whole_of(sizes(parts)), reckon.area(reckon.pairs(one)))
                self.assertEqual(sum(slid(parts)), sizes(parts)[0])

    def is_right_or_refused(self, w, f, g):
        """If it isn't refused; then it's right."""
        answer = between(w, f, g)
        if answer == [-28]:
            return False
        self.assertGreater(answer[0], 0)
        self.is_right(f, g, answer[1:])
        self.assertEqual(fewer(answer[1:]), answer)
        return True


class OfBetween(Holds):
    def test_figures_of_all_kinds_by_every_width(self):
        for _, f, g in PAIRS:
            found = [w for w in range(1, 21) if self.is_right_or_refused(w, f, g)]
            self.assertGreater(len(found), 0, (f, g))

    def some_at_random(self, w):
        """Six pairs that are answered, or as many as there are; of each figure if it's convex."""
        found = []
        for f, g in pairs_of_one_size(Numbers(70 + w), 200, 4 + w):
            if self.is_right_or_refused(w, f, g):
                found.append((is_convex(f), is_convex(g)))
            if len(found) == 6:
                break
        return found

    def test_figures_at_random(self):
        kinds = []
        for w in range(1, 21):
            found = self.some_at_random(w)
            self.assertGreater(len(found), 3, w)
            kinds += found
        for kind in itertools.product((False, True), repeat=2):
            self.assertGreater(kinds.count(kind), 9)


class PointByPoint(unittest.TestCase):
    """What a right cutting is, told of points."""

    def inner_points(self, numbers, piece):
        for _ in range(3):
            weights = [1 + numbers.below(50) for _ in piece]
            yield tuple([sum([weight * corner[side] for weight, corner in zip(weights, piece)]) / sum(weights)
                         for side in (0, 1)])

    def points_of_parts(self, numbers, f, g, cutting):
        """Each point strictly within a part lies in f, and goes into g, and no two parts have one."""
        f, g = reckon.pairs(f), reckon.pairs(g)
        there = [reckon.moved(piece, move) for piece, move in cutting]
        for k, (piece, move) in enumerate(cutting):
            for point in self.inner_points(numbers, piece):
                moved = reckon.moved([point], move)[0]
                self.assertEqual((reckon.place_of(point, f), reckon.place_of(moved, g)), (1, 1))
                for j, (other, _) in enumerate(cutting):
                    wanted = 1 if j == k else -1
                    self.assertEqual(reckon.place_of(point, other), wanted)
                    self.assertEqual(reckon.place_of(moved, there[j]), wanted)

    def points_of_figure(self, numbers, figure, pieces):
        """Each point of a figure lies in a part, and strictly within no more than one."""
        corners = reckon.pairs(figure)
        low, high = int(min(figure)), int(max(figure))
        for _ in range(60):
            point = tuple([low + Fraction(numbers.below((high - low) * 30 + 1), 30) for side in (0, 1)])
            places = [reckon.place_of(point, piece) for piece in pieces]
            if reckon.place_of(point, corners) < 0:
                self.assertEqual(set(places), {-1})
            else:
                self.assertIn(max(places), (0, 1))
                self.assertLessEqual(places.count(1), 1)
                self.assertFalse(1 in places and 0 in places)

    def test_what_between_answers(self):
        numbers = Numbers(73)
        for w, f, g in PAIRS:
            with self.subTest(w=w, f=f, g=g):
                cutting = reckon.read(between(w, f, g))
                self.points_of_parts(numbers, f, g, cutting)
                self.points_of_figure(numbers, f, [piece for piece, _ in cutting])
                self.points_of_figure(numbers, g, [reckon.moved(piece, move) for piece, move in cutting])


class BehindOneAnother(Holds):
    ROWS = (
        (SQUARE, box(0, 0, 4, 1), [0, 0, 4, 0, 0, 2], [-3, 1, -1, 1, -2, 5]),
        (NINE, U, [0, 0, 6, 0, 0, 3], turned(U)),
        (TWELVE, TWO_LEGS, TWO_HORNS, box(-1, -1, 5, 1)),
        (DART, box(0, 0, 3, 2), turned(DART), [0, 0, 4, 0, 0, 3]),
        (COMB, turned(COMB), begun_at(COMB, 2)),
    )

    def behind(self, f, g, h, w, then):
        """If there's the one, the other, and not too much behind one another: then it's right."""
        first, second = between(w, f, g), between(then, g, h)
        if [-28] in (first, second):
            return False
        try:
            cutting = reckon.behind(reckon.read(first), reckon.read(second))
        except reckon.TooMuch:
            return False
        self.is_right(f, h, row_of(cutting))
        return True

    def test_there_and_on(self):
        found = 0
        for row in self.ROWS:
            for f, g, h in itertools.permutations(row, 3):
                for w, then in ((1, 2), (4, 3)):
                    found += self.behind(f, g, h, w, then)
        self.assertGreater(found, 99)

    def test_there_and_back(self):
        for row in self.ROWS:
            for f, g in itertools.permutations(row, 2):
                for w, then in ((2, 2), (2, 3)):
                    self.behind(f, g, f, w, then)

    def test_back_the_same_way_nothing_is_moved(self):
        for w, f, g in PAIRS:
            with self.subTest(w=w, f=f, g=g):
                cutting = reckon.read(between(w, f, g))
                whole = reckon.behind(cutting, reckon.back(cutting))
                self.assertEqual(len(whole), len(cutting))
                self.assertEqual({move for _, move in whole}, {(0, 0, 0)})
                self.is_right(f, f, row_of(whole))


if __name__ == "__main__":
    unittest.main()
