"""Promise 1: what slid answers, how many parts are slid alone and how many are turned."""

import itertools
import unittest
from fractions import Fraction

import reckon
from helpers import GREATEST, LEAST_PART, PAIRS, SQUARE, Numbers, arc, begun_at, box, part, random_piece, row_of
from recutfigures.cuttings import between, fewer, slid

HALF = Fraction(1, 2)
LEFT = box(0, 0, 1, 1)
RIGHT = box(1, 0, 2, 1)
TRIANGLE = [0, 0, 2, 0, 0, 2]
WAYS = (
    (0, 0), (1, 0), (0, 1), (-1, -1), (2, 2), (HALF, 0), (0, Fraction(-7, 3)), (LEAST_PART, -LEAST_PART),
    (GREATEST, 1), (-GREATEST, GREATEST), (Fraction(GREATEST, 2), Fraction(2, GREATEST)),
)


class Slid(unittest.TestCase):
    def answered(self, parts, wanted):
        row = sum(parts, [])
        self.assertEqual(reckon.slid(row), wanted)
        self.assertEqual(slid(row), wanted)


class Alone(Slid):
    def test_no_parts(self):
        self.assertEqual(slid([]), [0, 0])

    def test_slid_by_nothing(self):
        for corners in (LEFT, TRIANGLE, arc(40), [0, LEAST_PART, GREATEST, 0, GREATEST, 1]):
            self.answered([part(corners)], [1, 0])
            self.answered([part(corners)] * 2, [2, 0])

    def test_slid(self):
        for way in WAYS:
            self.answered([part(LEFT, 0, *way)], [1, 0])
            self.answered([part(LEFT, 0, *way), part(TRIANGLE, 0, *way)], [2, 0])

    def test_turned_and_slid_by_nothing(self):
        for corners in (LEFT, TRIANGLE, arc(40), [0, LEAST_PART, GREATEST, 0, GREATEST, 1]):
            self.answered([part(corners, 1)], [0, 1])
            self.answered([part(corners, 1)] * 2, [0, 2])

    def test_turned_and_slid(self):
        for way in WAYS:
            self.answered([part(LEFT, 1, *way)], [0, 1])
            self.answered([part(LEFT, 1, *way), part(TRIANGLE, 1, *way)], [0, 2])

    def test_begun_with_any_corner(self):
        for k in range(40):
            self.answered([part(begun_at(arc(40), k), 1)], [0, 1])
            self.answered([part(begun_at(arc(40), k))], [1, 0])

    def test_turned_onto_itself(self):
        # What's turned lies where it lay, corner on corner, and is turned none the less.
        self.answered([part(SQUARE, 1, 2, 2)], [0, 1])
        self.answered([part(box(-1, -1, 1, 1), 1)], [0, 1])
        self.answered([part(box(-1, -1, 1, 1), 1), part(box(-1, -1, 1, 1))], [1, 1])


class Both(Slid):
    def test_in_any_order(self):
        for turns in itertools.product((0, 1), repeat=5):
            parts = [part(box(k, 0, k + 1, 1), turn, *way) for k, (turn, way) in enumerate(zip(turns, WAYS))]
            self.answered(parts, [turns.count(0), turns.count(1)])

    def test_as_many_as_there_may_be(self):
        for turned in (0, 1, 80, 159, 160):
            parts = [part(TRIANGLE, 1)] * turned + [part(TRIANGLE)] * (160 - turned)
            self.answered(parts, [160 - turned, turned])
            self.answered(parts[::-1], [160 - turned, turned])
            self.answered(Numbers(turned).mixed(parts), [160 - turned, turned])

    def test_one_too_many(self):
        for turned in (0, 1, 80, 160, 161):
            parts = [part(TRIANGLE, 1)] * turned + [part(TRIANGLE)] * (161 - turned)
            self.answered(parts, [-28])

    def test_pieces_of_all_kinds(self):
        numbers = Numbers(41)
        for _ in range(60):
            cutting = []
            for _ in range(numbers.below(20)):
                way = numbers.one_of(WAYS)
                cutting.append((random_piece(numbers, 6, 1 + numbers.below(4)), (numbers.below(2), *way)))
            turned = sum([turn for _, (turn, _, _) in cutting])
            self.answered([row_of(cutting)], [len(cutting) - turned, turned])


class AsHandedIn(Slid):
    def test_parts_that_could_be_joined(self):
        for turn, wanted in ((0, [2, 0]), (1, [0, 2])):
            parts = [part(LEFT, turn), part(RIGHT, turn)]
            self.assertEqual(fewer(sum(parts, []))[0], 1)
            self.answered(parts, wanted)
        row = [part(box(k, 0, k + 1, 1)) for k in range(160)]
        self.assertEqual(fewer(sum(row, []))[0], 1)
        self.answered(row, [160, 0])

    def test_a_part_twice(self):
        self.answered([part(LEFT)] * 2, [2, 0])
        self.answered([part(LEFT, 1)] * 2, [0, 2])
        self.answered([part(LEFT), part(RIGHT, 1), part(LEFT)], [2, 1])
        self.answered([part(LEFT, 1), part(RIGHT), part(LEFT, 1)], [1, 2])
        self.answered([part(LEFT, 1, 1, 1), part(LEFT, 0, 1, 1)], [1, 1])

    def test_parts_that_lie_on_one_another(self):
        self.answered([part(SQUARE), part(LEFT, 1), part(TRIANGLE)], [2, 1])
        self.answered([part(LEFT), part(RIGHT, 0, -1, 0)], [2, 0])


class Great(Slid):
    def test_numbers_of_256_bits(self):
        far = GREATEST - 1
        low, high = Fraction(-far, GREATEST), Fraction(GREATEST, far)
        for corners in (box(low, low, high, high), [-GREATEST, -GREATEST, far, far, -GREATEST, far],
                        [low, low, LEAST_PART, low, high, high, low, LEAST_PART]):
            self.answered([part(corners, 0, low, high), part(corners, 1, low, high), part(corners, 1, high, low)], [1, 2])


class OfBetween(Slid):
    def test_what_between_answers(self):
        both = 0
        for w, f, g in PAIRS:
            with self.subTest(w=w, f=f, g=g):
                answer = between(w, f, g)
                turned = sum([turn for _, (turn, _, _) in reckon.read(answer)])
                self.answered([answer[1:]], [answer[0] - turned, turned])
                both += 0 < turned < answer[0]
        self.assertGreater(both, 3)

    def test_known_ones(self):
        # Told number by number in test_answers.
        self.answered([between(2, TRIANGLE, box(0, 0, 2, 1))[1:]], [2, 2])
        self.answered([between(2, SQUARE, box(0, 0, 4, 1))[1:]], [4, 0])
        self.answered([between(4, [0, 0, 2, 0, 3, 2, 1, 2], box(0, 0, 4, 1))[1:]], [3, 3])

    def test_taken_back_as_many_are_turned(self):
        for w, f, g in PAIRS:
            with self.subTest(w=w, f=f, g=g):
                row = between(w, f, g)[1:]
                self.assertEqual(slid(row_of(reckon.back(reckon.handed(row)))), slid(row))


if __name__ == "__main__":
    unittest.main()
