"""Promise 1: the width, sizes that differ, and which of several refusals is answered."""

import unittest

from recutfigures.cuttings import between

SQUARE = [0, 0, 2, 0, 2, 2, 0, 2]
LONG = [0, 0, 4, 0, 4, 1, 0, 1]
CROSSED = [0, 0, 4, 4, 4, 0, 0, 4]
# Cut at height 1, with 61 in all for the lower and the upper side: too much for 1.
WIDE = [0, 0, 31, 0, 30, 1, 0, 1]
WIDE_AND_ONE_MORE = [0, 0, 32, 0, 31, 1, 0, 1]


class Widths(unittest.TestCase):
    def test_outside(self):
        for w in (0, 21, 22, 100, 4294967294, 4294967295):
            with self.subTest(w=w):
                self.assertEqual(between(w, SQUARE, LONG), [-22])
                self.assertEqual(between(w, SQUARE, SQUARE), [-22])

    def test_within(self):
        for w in range(1, 21):
            with self.subTest(w=w):
                self.assertGreater(between(w, SQUARE, LONG)[0], 0)


class Sizes(unittest.TestCase):
    def test_by_more(self):
        self.assertEqual(between(2, SQUARE, [0, 0, 3, 0, 3, 3, 0, 3]), [-33])
        self.assertEqual(between(2, [0, 0, 3, 0, 3, 3, 0, 3], SQUARE), [-33])

    def test_by_a_half(self):
        less = [0, 0, 2, 0, 2, 1, 1, 2, 0, 2]
        more = [0, 0, 3, 0, 0, 3]
        self.assertEqual(between(2, SQUARE, less), [-33])
        self.assertEqual(between(2, less, SQUARE), [-33])
        self.assertEqual(between(2, SQUARE, more), [-33])
        self.assertEqual(between(2, more, SQUARE), [-33])

    def test_halves_that_are_the_same(self):
        one = [0, 0, 3, 0, 0, 3]
        other = [0, 0, 9, 0, 0, 1]
        self.assertGreater(between(2, one, other)[0], 0)


class WhichOfSeveral(unittest.TestCase):
    def test_no_figure_ahead_of_sizes(self):
        self.assertEqual(between(2, CROSSED, LONG), [-22])
        self.assertEqual(between(2, LONG, CROSSED), [-22])
        self.assertEqual(between(2, SQUARE, []), [-22])

    def test_no_width_ahead_of_sizes(self):
        for w in (0, 21):
            self.assertEqual(between(w, SQUARE, [0, 0, 3, 0, 3, 3, 0, 3]), [-22])

    def test_no_width_and_no_figure(self):
        self.assertEqual(between(0, CROSSED, []), [-22])

    def test_no_figure_ahead_of_too_much(self):
        self.assertEqual(between(1, WIDE, CROSSED), [-22])
        self.assertEqual(between(1, CROSSED, WIDE), [-22])

    def test_no_width_ahead_of_too_much(self):
        # By a width of 0 anything is too wide; by so great a one all is too narrow.
        for w in (0, 4294967295):
            self.assertEqual(between(w, WIDE, WIDE), [-22])

    def test_sizes_ahead_of_too_much(self):
        self.assertEqual(between(1, WIDE, WIDE), [-28])
        self.assertEqual(between(1, WIDE, WIDE_AND_ONE_MORE), [-33])
        self.assertEqual(between(1, WIDE_AND_ONE_MORE, WIDE), [-33])
        self.assertEqual(between(1, SQUARE, WIDE), [-33])


if __name__ == "__main__":
    unittest.main()
