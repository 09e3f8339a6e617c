"""Promise 1: -22, where what's handed in is no figure."""

import itertools
import unittest

import reckon
from recutfigures.cuttings import between

SQUARE = [0, 0, 2, 0, 2, 2, 0, 2]
GREATEST = 2 ** 256 - 1

NO_FIGURES = {
    "no numbers": [],
    "one number": [3],
    "an odd number of numbers": [0, 0, 2, 0, 2, 2, 0],
    "an odd number, one too many": [0, 0, 2, 0, 2, 2, 0, 2, 1],
    "one corner": [0, 0],
    "two corners": [0, 0, 2, 0],
    "nine corners": [0, 0, 2, 0, 4, 1, 5, 3, 4, 5, 2, 6, 0, 5, -1, 4, -1, 1],
    "thirty corners": [0, 0, 2, 0, 2, 2, 0, 2] * 7 + [0, 0, 2, 0],
    "a corner at -51, to the right": [-51, 0, 2, 0, 2, 2],
    "a corner at 51, to the right": [0, 0, 51, 0, 2, 2],
    "a corner at -51, up": [0, -51, 2, 0, 2, 2],
    "a corner at 51, up": [0, 0, 2, 0, 2, 51],
    "as far to the right as can be": [0, 0, GREATEST, 0, 2, 2],
    "as far to the left as can be": [-GREATEST, 0, 2, 0, 2, 2],
    "as far up as can be": [0, 0, 2, 0, 2, GREATEST],
    "as far down as can be": [0, -GREATEST, 2, 0, 2, 2],
    "all as far as can be": [-GREATEST, -GREATEST, GREATEST, -GREATEST, GREATEST, GREATEST],
    "a triangle round on the right": [0, 0, 2, 2, 2, 0],
    "a square round on the right": [0, 0, 0, 2, 2, 2, 2, 0],
    "one that isn't convex, round on the right": [0, 3, 1, 1, 3, 0, 0, 0],
    "all corners in a row": [0, 0, 1, 0, 2, 0],
    "a straight corner": [0, 0, 1, 0, 2, 0, 2, 2, 0, 2],
    "a straight corner at the first place": [1, 0, 2, 0, 2, 2, 0, 2, 0, 0],
    "a straight corner at the last place": [2, 0, 2, 2, 0, 2, 0, 0, 1, 0],
    "a straight corner that leans": [0, 0, 4, 0, 2, 2, 0, 4],
    "a corner that turns back": [0, 0, 4, 0, 2, 0, 2, 2],
    "a corner that turns back to where it came from": [0, 0, 4, 0, 4, 4, 4, 0, 2, -2],
    "a corner that turns back at the first place": [4, 0, 2, 0, 2, 2, 0, 0],
    "a corner twice, next to each other": [0, 0, 2, 0, 2, 0, 2, 2, 0, 2],
    "a corner twice, as first and last": [0, 0, 2, 0, 2, 2, 0, 2, 0, 0],
    "a corner twice, apart": [0, 0, 2, -2, 2, 2, 0, 0, -2, 2, -2, -2],
    "all corners the same": [1, 1, 1, 1, 1, 1],
    "sides that cross": [0, 0, 4, 4, 4, 0, 0, 4],
    "sides that cross, more on the left": [0, 0, 4, 0, 4, 1, 1, -1],
    "sides that cross, the last and one within": [0, 0, 6, 0, 6, 6, -2, 4, 3, 3, -2, 2, 4, -1],
    "a corner on another side": [0, 0, 4, 0, 4, 4, 2, 0, 0, 4],
    "a corner on another side, from without": [0, 0, 4, 0, 4, 4, 6, 4, 6, -2, 3, 0, 0, -2],
    "a corner on the last side": [0, 0, 4, 0, 0, 2, 4, 4, 0, 4],
    "a side on another side": [0, 0, 4, 0, 4, 4, 3, 4, 3, 0, 1, 0, 1, 4, 0, 4],
    "twice round": [0, 0, 3, 0, 3, 3, 0, 3, -1, -1, 4, -1, 4, 4, -1, 4],
}

FIGURES = {
    "three corners": [0, 0, 2, 0, 0, 2],
    "four corners": SQUARE,
    "eight corners": [0, 0, 2, 0, 3, 1, 3, 3, 2, 4, 0, 4, -1, 3, -1, 1],
    "eight corners, not convex": [0, 0, 5, 0, 5, 3, 4, 3, 4, 1, 1, 1, 1, 3, 0, 3],
    "a corner at -50, to the right": [-50, 0, -48, 0, -48, 2],
    "a corner at 50, to the right": [48, 0, 50, 0, 50, 2],
    "a corner at -50, up": [0, -50, 2, -50, 2, -48],
    "a corner at 50, up": [0, 48, 2, 48, 2, 50],
    "a corner nearly on another side": [0, 0, 5, 0, 5, 5, 2, 1, 0, 5],
    "a corner in a row with a side that it isn't on": [0, 0, 2, 0, 2, 2, 4, 0, 6, 0, 6, 3, 0, 3],
    "two sides in one row": [0, 0, 1, 0, 1, 1, 2, 1, 2, 0, 3, 0, 3, 2, 0, 2],
}


class NoFigures(unittest.TestCase):
    def test_first(self):
        for name, row in NO_FIGURES.items():
            with self.subTest(name):
                self.assertEqual(between(4, row, SQUARE), [-22])

    def test_second(self):
        for name, row in NO_FIGURES.items():
            with self.subTest(name):
                self.assertEqual(between(4, SQUARE, row), [-22])

    def test_both(self):
        for name, row in NO_FIGURES.items():
            with self.subTest(name):
                self.assertEqual(between(4, row, row), [-22])

    def test_begun_at_any_corner(self):
        for name, row in NO_FIGURES.items():
            for start in range(0, len(row) - 1, 2):
                with self.subTest(name, start=start):
                    self.assertEqual(between(4, row[start:] + row[:start], SQUARE), [-22])


class Figures(unittest.TestCase):
    def test_neither_is_refused(self):
        for name, row in FIGURES.items():
            for start in range(0, len(row), 2):
                with self.subTest(name, start=start):
                    begun = row[start:] + row[:start]
                    self.assertGreater(between(4, begun, begun)[0], 0)

    def test_the_whole_of_what_is_allowed(self):
        whole = [-50, -50, 50, -50, 50, 50, -50, 50]
        self.assertEqual(between(20, whole, whole), [
            1, 4, -50, 1, -50, 1, 50, 1, -50, 1, 50, 1, 50, 1, -50, 1, 50, 1, 0, 0, 1, 0, 1,
        ])

    def test_eight_corners_at_the_edge(self):
        cut = [-49, -50, 49, -50, 50, -49, 50, 49, 49, 50, -49, 50, -50, 49, -50, -49]
        self.assertGreater(between(20, cut, cut)[0], 0)

    def test_three_corners_at_the_edge(self):
        half = [-50, -50, 50, -50, -50, 50]
        self.assertGreater(between(20, half, half)[0], 0)


class EveryRow(unittest.TestCase):
    """What's a figure, compared with the tests' own reckoning."""

    def compare(self, rows):
        found = [0, 0]
        for row in rows:
            row = list(row)
            wanted = reckon.is_figure(row)
            found[wanted] += 1
            # By their sizes -33 is due next, so that nothing needs to be cut.
            answer = between(4, row, [-50, -50, 50, -50, 50, 50, -50, 50])
            self.assertEqual(answer, [-33] if wanted else [-22], row)
        self.assertGreater(min(found), 0)

    def test_three_corners_on_a_small_grid(self):
        self.compare(itertools.product(range(3), repeat=6))

    def test_four_corners_on_a_small_grid(self):
        self.compare(itertools.product(range(3), repeat=8))

    def test_more_corners(self):
        for count in (5, 6, 7, 8):
            state = count
            rows = []
            for _ in range(4000):
                row = []
                for _ in range(2 * count):
                    state = (state * 1103515245 + 12345) % 2 ** 31
                    row.append((state >> 16) % 7 - 3)
                rows.append(row)
            self.compare(rows)


if __name__ == "__main__":
    unittest.main()
