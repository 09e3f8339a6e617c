"""The tests' own reckoning: it finds what's wrong with a cutting."""

import unittest
from fractions import Fraction

import reckon

SQUARE = [0, 0, 2, 0, 2, 2, 0, 2]
LOWER = [0, 0, 2, 0, 2, 1, 0, 1]
UPPER = [0, 1, 2, 1, 2, 2, 0, 2]


def part(row, turned=0, right=0, up=0):
    return (reckon.pairs(row), (turned, Fraction(right), Fraction(up)))


class Why(unittest.TestCase):
    def test_nothing(self):
        self.assertEqual(reckon.why(SQUARE, SQUARE, [part(LOWER), part(UPPER)]), [1])
        self.assertEqual(reckon.why(SQUARE, SQUARE, [part(LOWER, 1, 2, 2), part(UPPER, 1, 2, 2)]), [1])

    def test_sizes(self):
        self.assertEqual(reckon.why(SQUARE, LOWER, [part(LOWER)]), [0, 1, 0, 0])

    def test_a_part_twice(self):
        self.assertEqual(reckon.why(SQUARE, SQUARE, [part(LOWER), part(LOWER)]), [0, 4, 0, 1])

    def test_two_parts_moved_to_one_place(self):
        cutting = [part(LOWER), part(UPPER, 0, 0, -1)]
        self.assertEqual(reckon.why(SQUARE, SQUARE, cutting), [0, 5, 0, 1])

    def test_moved_out(self):
        cutting = [part(LOWER), part(UPPER, 0, 1, 0)]
        self.assertEqual(reckon.why(SQUARE, SQUARE, cutting), [0, 3, 1, 0])

    def test_out_of_one_that_is_not_convex(self):
        dent = [0, 0, 2, 1, 4, 0, 4, 2, 0, 2]
        box = [0, 0, 4, 0, 4, 1, 0, 1]
        self.assertEqual(reckon.why(dent, dent, [part(box, 0, 0, 1)]), [0, 2, 0, 0])

    def test_left_out(self):
        self.assertEqual(reckon.why(SQUARE, SQUARE, [part(LOWER)]), [0, 6, 0, 0])


class PlaceOf(unittest.TestCase):
    DENT = [0, 0, 2, 1, 4, 0, 4, 2, 0, 2]

    def test_each_place(self):
        half = Fraction(1, 2)
        for point, place in (
            ((2, half), -1), ((-1, 1), -1), ((5, 1), -1), ((3, 3), -1), ((2, 3), -1), ((1, 0), -1), ((-1, 2), -1),
            ((0, 0), 0), ((2, 1), 0), ((1, half), 0), ((4, 1), 0), ((2, 2), 0), ((0, 2), 0),
            ((1, 1), 1), ((3, 1), 1), ((2, 1 + half), 1), ((half, half), 1), ((4 - half, half), 1),
        ):
            with self.subTest(point=point):
                self.assertEqual(reckon.place_of(point, reckon.pairs(self.DENT)), place)


class Read(unittest.TestCase):
    GOOD = [1, 3, 0, 1, 0, 1, 1, 1, 0, 1, 0, 1, 1, 1, 0, 0, 1, 1, 2]

    def test_good(self):
        self.assertEqual(reckon.read(self.GOOD), [part([0, 0, 1, 0, 0, 1], 0, 0, Fraction(1, 2))])

    def test_bad(self):
        for place, number in ((1, 2), (3, 2), (3, -1), (14, 2), (16, 2), (17, 2), (18, 0)):
            row = list(self.GOOD)
            row[place] = number
            with self.subTest(place=place, number=number), self.assertRaises((AssertionError, IndexError)):
                reckon.read(row)

    def test_begun_elsewhere_or_round_on_the_right(self):
        for corners in ([1, 0, 0, 1, 0, 0], [0, 0, 0, 1, 1, 0], [0, 0, 1, 0, 2, 0, 0, 1]):
            row = [1, len(corners) // 2]
            for number in corners:
                row += [number, 1]
            with self.subTest(corners=corners), self.assertRaises(AssertionError):
                reckon.read(row + [0, 0, 1, 0, 1])


if __name__ == "__main__":
    unittest.main()
