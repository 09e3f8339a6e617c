"""Promise 1: -28, each reason by itself, and what's just not too much."""

import unittest
from fractions import Fraction

import reckon
from recutfigures.cuttings import between


class Alone(unittest.TestCase):
    """A figure and itself: behind one another there are as many parts as the figure has."""

    def refused(self, w, figure, reason):
        self.assertEqual(reckon.reasons(w, figure), {reason})
        self.assertEqual(between(w, figure, figure), [-28])

    def answered(self, w, figure):
        self.assertEqual(reckon.reasons(w, figure), set())
        self.assertEqual(between(w, figure, figure), reckon.between(w, figure, figure))
        self.assertGreater(between(w, figure, figure)[0], 0)

    def test_shear_by_60(self):
        figure = [30, -44, -3, 28, 27, -38]
        self.assertEqual(max(reckon.shears(figure)), 60)
        self.answered(1, figure)

    def test_shear_by_60_the_other_way(self):
        for figure in ([-7, -4, 10, 2, -10, -5, -8, -5], [-7, -2, 10, 10, -10, -4, -3, -4]):
            self.assertEqual(min(reckon.shears(figure)), -60)
            self.answered(1, figure)

    def test_shear_by_more(self):
        figure = [-8, 8, -5, 7, 6, -3, -6, 8]
        self.assertEqual(max(reckon.shears(figure)), Fraction(121, 2))
        self.refused(1, figure, "shear")

    def test_shear_by_more_the_other_way(self):
        for figure in ([-2, -4, 0, -3, 20, 8], [10, 7, -1, -1, -3, -1, -5, -4]):
            self.assertEqual(min(reckon.shears(figure)), Fraction(-121, 2))
            self.refused(1, figure, "shear")

    def test_60_times_the_width(self):
        self.answered(1, [0, 0, 30, 0, 30, 1, 0, 1])
        self.answered(1, [35, -4, -2, -2, -25, -4])
        self.answered(1, [16, -13, 16, 0, -20, -3, -8, -11])

    def test_more_than_60_times_the_width(self):
        self.refused(1, [0, 0, 31, 0, 30, 1, 0, 1], "wide")
        self.refused(1, [0, 0, 30, 0, 31, 1, 0, 1], "wide")
        self.refused(1, [-46, 3, 15, 3, 17, 20], "wide")
        self.refused(1, [-2, -24, 18, 0, -43, 0], "wide")
        self.refused(1, [12, 7, -11, 19, -20, 1, 12, -12], "wide")

    def test_60_times_a_greater_width(self):
        self.answered(2, [-30, 0, 30, 0, 30, 1, -30, 1])
        self.answered(3, [-45, 0, 45, 0, 45, 1, -45, 1])

    def test_more_than_60_times_a_greater_width(self):
        self.refused(2, [-31, 0, 30, 0, 29, 1, -31, 1], "wide")
        self.refused(3, [-46, 0, 45, 0, 44, 1, -46, 1], "wide")

    def test_a_60th_of_the_width(self):
        for w, figure in (
            (12, [0, 2, 0, 1, -1, 1, 1, -3]),
            (12, [1, 0, 1, -1, 2, 4, -1, 3]),
            (15, [0, -3, 1, 1, -3, 0, 0, -2]),
        ):
            self.assertEqual(min(reckon.widths(figure)), Fraction(w, 60))
            self.answered(w, figure)

    def test_less_than_a_60th_of_the_width(self):
        for w, figure in (
            (12, [2, 4, 10, -7, 10, -13, 11, 18]),
            (20, [-10, -11, 5, 12, -8, 15, -8, 20]),
        ):
            self.assertLess(min(reckon.widths(figure)), Fraction(w, 60))
            self.refused(w, figure, "narrow")

    def test_160_parts(self):
        for figure in ([0, -1, 1, 1, 0, 0], [1, 0, 1, 1, 0, 2], [1, 3, 0, -1, 1, 1]):
            self.assertEqual(len(reckon.strip(16, figure)), 160)
            self.answered(16, figure)

    def test_161_parts(self):
        for w, figure in (
            (8, [0, 1, 0, 0, 1, -3]),
            (17, [0, 1, -1, -3, 1, 0]),
            (20, [2, 1, 0, 0, 1, -1]),
        ):
            self.assertEqual(len(reckon.whole_strip(w, figure, 1000)), 161)
            self.refused(w, figure, "parts")

    def test_many_more_parts(self):
        for figure in ([0, 0, 1, 5, 0, 3], [0, 0, 3, 5, 1, 4, -1, 9]):
            self.refused(20, figure, "parts")


class OneOfTwo(unittest.TestCase):
    """Of two figures of one size, one is too much."""

    def test_first_or_second(self):
        wide = [0, 0, 31, 0, 30, 1, 0, 1]
        triangle = [-30, 0, 31, 0, -30, 1]
        upright = [0, 0, 1, 0, 1, 30, 0, 31]
        self.assertEqual(reckon.reasons(1, wide), {"wide"})
        self.assertEqual(reckon.reasons(1, upright), set())
        self.assertEqual(between(1, wide, upright), [-28])
        self.assertEqual(between(1, upright, wide), [-28])
        self.assertEqual(reckon.reasons(1, triangle), {"wide"})
        self.assertEqual(between(1, triangle, upright), [-28])
        self.assertEqual(between(1, upright, triangle), [-28])


class BehindOneAnother(unittest.TestCase):
    """Two figures, neither of them too much by itself."""

    AT_160 = (
        (8, [2, -1, 1, 2, 0, -2], [-1, -1, 2, -3, 1, 0]),
        (15, [0, -2, 2, 3, 1, 3], [0, 2, -1, 3, -2, -1]),
        (20, [1, -2, -3, 1, 0, -2], [1, 0, 1, -3, 2, -2]),
    )
    AT_161 = (
        (4, [3, -4, 2, 3, 7, 6, -8, -2], [1, 6, -7, -3, 4, -1, 1, 5]),
        (8, [-3, -1, 0, 2, -3, 0], [3, -3, 3, 0, 2, 3]),
        (18, [1, 1, 3, 0, 1, 2], [-2, 1, -1, -1, 0, -1]),
    )

    def counted(self, w, f, g):
        self.assertLessEqual(len(reckon.strip(w, f)), 160)
        self.assertLessEqual(len(reckon.strip(w, g)), 160)
        return len(reckon.before_joined(w, f, g, 1000))

    def test_160(self):
        for w, f, g in self.AT_160:
            with self.subTest(w=w, f=f, g=g):
                self.assertEqual(self.counted(w, f, g), 160)
                answer = between(w, f, g)
                self.assertEqual(answer, reckon.between(w, f, g))
                self.assertGreater(answer[0], 0)

    def test_161(self):
        for w, f, g in self.AT_161:
            with self.subTest(w=w, f=f, g=g):
                self.assertEqual(self.counted(w, f, g), 161)
                self.assertEqual(between(w, f, g), [-28])

    def test_parts_are_counted_before_they_are_joined(self):
        for w, f, g, left in (
            (18, [1, 1, 3, 0, 1, 2], [-2, 1, -1, -1, 0, -1], 142),
            (18, [2, -2, 3, -2, 0, 0, -2, 1], [2, -2, 1, 0, 0, 0, -2, 1], 2),
        ):
            with self.subTest(w=w, f=f, g=g):
                self.assertGreater(self.counted(w, f, g), 160)
                self.assertEqual(len(reckon.join(reckon.before_joined(w, f, g, 1000))), left)
                self.assertEqual(between(w, f, g), [-28])


if __name__ == "__main__":
    unittest.main()
