"""Promise 1: -22 where c is no cutting, and -28 where it has too many parts; of why, fewer, slid and sizes."""

import unittest
from fractions import Fraction

import reckon
from helpers import GREATEST, LEAST_PART, Numbers, Unchanging, arc, begun_at, box, part, random_piece, row_of
from recutfigures.cuttings import fewer, sizes, slid, why
from test_figures import NO_FIGURES

WHOLE = box(-50, -50, 50, 50)
GOOD = (
    part([0, 0, 2, 0, 0, 2]),
    part([5, 0, Fraction(13, 2), Fraction(-1, 3), 7, 1, 5, 2], 1, Fraction(-5, 2), 0),
    part([-8, 4, -9, 3, -8, 3], 0, 0, Fraction(7, 4)),
)
TRIANGLE = GOOD[0]
HALVES = [3, 1, 2, -1, 2, 5, 2, -1, 2, 5, 2, 7, 2, 0, 3, 2, -7, 2]


def with_numbers(row, place, *numbers):
    return row[:place] + list(numbers) + row[place + len(numbers):]


def counted(count):
    """A part told with another number of corners than the three that it has."""
    return [count] + TRIANGLE[1:]


NO_COUNTS = {
    "no corners": counted(0),
    "no corners, and just so many numbers": [0, 0, 0, 1, 0, 1],
    "one corner": part([1, 2]),
    "two corners": part([0, 0, 2, 0]),
    "one told of three": counted(1),
    "two told of three": counted(2),
    "four told of three": counted(4),
    "forty told of three": counted(40),
    "forty-one told of three": counted(41),
    "forty-one corners": part(arc(41)),
    "sixty corners": part(arc(60)),
    "fewer than none": counted(-1),
    "three below none": counted(-3),
    "forty below none": counted(-40),
    "as many as can be": counted(GREATEST),
    "as few as can be": counted(-GREATEST),
}

NO_TURNS = {str(turn): with_numbers(TRIANGLE, 13, turn) for turn in (2, -1, 3, GREATEST, -GREATEST)}

FAR = GREATEST - 1
NO_PIECES = {
    "round on the right": [0, 0, 0, 2, 2, 0],
    "four corners round on the right": [0, 0, 0, 2, 2, 2, 2, 0],
    "forty corners round on the right": sum([[k, -k * k] for k in range(40)], []),
    "a straight corner": [0, 0, 1, 0, 2, 0, 0, 2],
    "a straight corner on a side that leans": [0, 0, 2, 0, 1, 1, 0, 2],
    "two straight corners": [0, 0, 1, 0, 2, 0, 3, 0, 0, 2],
    "all corners in a row": [0, 0, 1, 0, 2, 0],
    "all corners in a row, there and back": [0, 0, 2, 2, 1, 1],
    "a corner twice, next to each other": [0, 0, 2, 0, 2, 0, 0, 2],
    "a corner twice, apart": [0, 0, 2, 0, 2, 2, 0, 0, 0, 2],
    "a corner three times": [1, 1, 1, 1, 1, 1],
    "three corners, of which two are one": [0, 0, 2, 0, 2, 0],
    "an inner corner": [0, 0, 2, 1, 4, 0, 2, 4],
    "an inner corner just within": [0, 0, 2, LEAST_PART, 4, 0, 2, 4],
    "a corner that turns back": [0, 0, 4, 0, 2, 0, 2, 2],
    "sides that cross": [0, 0, 2, 2, 2, 0, 0, 2],
    "twice round three corners": [0, 0, 2, 0, 0, 2] * 2,
    "twice round four corners": [0, 0, 2, 0, 2, 2, 0, 2] * 2,
    "a star, twice round, on the left at each corner": [0, 3, -2, -3, 3, 1, -3, 1, 2, -3],
    "a square within a square, twice round": box(0, 0, 9, 9) + box(1, 1, 8, 8),
    "three times round": [0, 0, 1, 0, 0, 1] * 3,
    "straight, with numbers of 256 bits": [
        0, 0, 2 ** 254, Fraction(2 ** 254, GREATEST), 2 ** 255, Fraction(2 ** 255, GREATEST), 0, 5,
    ],
}

ENOUGH = {
    "three corners": [0, 0, 2, 0, 0, 2],
    "four corners": box(-3, -2, 7, 9),
    "five corners": [0, 0, 2, 0, 3, 1, 1, 4, -1, 2],
    "thirty-nine corners": arc(39),
    "forty corners": arc(40),
    "a corner just without": [0, 0, 2, -LEAST_PART, 4, 0, 2, 4],
    "as flat as can be": [0, 0, GREATEST, 0, 1, LEAST_PART],
    "as far away as can be": [GREATEST, GREATEST, -GREATEST, GREATEST, -GREATEST, -GREATEST],
    "all numbers of 256 bits": [
        Fraction(FAR, GREATEST), Fraction(-FAR, GREATEST), Fraction(GREATEST, FAR), Fraction(FAR, GREATEST - 2),
        Fraction(-GREATEST, FAR), Fraction(GREATEST, FAR),
    ],
}


def places_of_a_part(bad):
    """The part alone, and as the first, a middle and the last one."""
    yield bad
    yield bad + GOOD[0] + GOOD[1]
    yield GOOD[0] + bad + GOOD[1]
    yield GOOD[0] + GOOD[1] + bad


class Handed(unittest.TestCase):
    def refused(self, row, answer=-22):
        self.assertEqual(why(WHOLE, WHOLE, row), [answer], row)
        self.assertEqual(fewer(row), [answer], row)
        self.assertEqual(slid(row), [answer], row)
        self.assertEqual(sizes(row), [answer], row)

    def taken(self, row):
        self.assertIn(why(WHOLE, WHOLE, row)[0], (0, 1), row)
        self.assertGreaterEqual(fewer(row)[0], 0, row)
        self.assertGreaterEqual(slid(row)[0], 0, row)
        self.assertGreaterEqual(sizes(row)[0], 0, row)

    def refused_everywhere(self, bad):
        for row in places_of_a_part(bad):
            self.refused(row)


class NoCuttings(Handed):
    def test_good_ones_are_taken(self):
        for row in (HALVES, *GOOD, sum(GOOD, [])):
            self.taken(row)

    def test_numbers_that_end_too_early(self):
        row = sum(GOOD, [])
        ends = {0, len(GOOD[0]), len(GOOD[0] + GOOD[1]), len(row)}
        for end in range(len(row)):
            if end in ends:
                self.taken(row[:end])
            else:
                self.refused(row[:end])

    def test_numbers_that_end_too_early_and_would_do_as_others(self):
        # Each number of the move may stand for the one ahead of it as well.
        for corners in ([0, 0, 2, 0, 1, 1], box(0, 0, 1, 1), begun_at(arc(40), 1)):
            row = part(corners, 1, 1, 1)
            self.taken(row)
            for count in range(1, 14):
                self.refused(row[:-count])
                self.refused(GOOD[0] + row[:-count])

    def test_one_number_too_many(self):
        for number in (0, 1, 2, 3, 4, 40, 41, -1, GREATEST, -GREATEST):
            for k in range(4):
                self.refused(sum(GOOD[:k], []) + [number])

    def test_one_number_too_many_within(self):
        self.refused(GOOD[0] + [0] + GOOD[1])
        self.refused(GOOD[0] + [1] + GOOD[1])
        self.refused([0] + GOOD[0])

    def test_how_many_corners(self):
        for name, bad in NO_COUNTS.items():
            with self.subTest(name):
                self.refused_everywhere(bad)

    def test_fractions(self):
        for place in list(range(1, 13, 2)) + [14, 16]:
            above, below = HALVES[place], HALVES[place + 1]
            for bad in ((above, 0), (above, -below), (-above, -below), (2 * above, 2 * below), (3 * above, 3 * below),
                        (above, -GREATEST), (0, 0)):
                with self.subTest(place=place, bad=bad):
                    self.refused_everywhere(with_numbers(HALVES, place, *bad))

    def test_whole_ones_told_over_more(self):
        for place in list(range(1, 13, 2)) + [14, 16]:
            with self.subTest(place=place):
                for by in (-1, 2, 5, 2 ** 255):
                    bad = [by * TRIANGLE[place], by * TRIANGLE[place + 1]]
                    self.refused_everywhere(with_numbers(TRIANGLE, place, *bad))

    def test_nothing_told_otherwise(self):
        for place in (1, 3, 7, 9, 14, 16):
            if TRIANGLE[place] == 0:
                for below in (2, 3, 0, -1, GREATEST, -GREATEST):
                    self.refused_everywhere(with_numbers(TRIANGLE, place, 0, below))

    def test_great_numbers_with_something_in_common(self):
        self.taken(with_numbers(TRIANGLE, 14, 2 ** 255, 3 ** 161))
        self.refused_everywhere(with_numbers(TRIANGLE, 14, 2 ** 255, 2 ** 254))
        self.refused_everywhere(with_numbers(TRIANGLE, 14, 3 * 2 ** 254, 3 ** 161))
        self.refused_everywhere(with_numbers(TRIANGLE, 16, -3 ** 161, 3 ** 160 * 2))

    def test_turned(self):
        for name, bad in NO_TURNS.items():
            with self.subTest(name):
                self.refused_everywhere(bad)

    def test_pieces(self):
        for name, corners in NO_PIECES.items():
            with self.subTest(name):
                self.assertIsNone(reckon.handed(part(corners)))
                self.refused_everywhere(part(corners))

    def test_pieces_begun_with_any_corner(self):
        for name, corners in NO_PIECES.items():
            for k in range(len(corners) // 2):
                with self.subTest(name, k=k):
                    self.refused(part(begun_at(corners, k)))

    def test_turned_or_not_it_stays_no_piece(self):
        for name, corners in NO_PIECES.items():
            with self.subTest(name):
                self.refused(part(corners, 1, Fraction(1, 2), -3))

    def test_pieces_that_are_taken(self):
        for name, corners in ENOUGH.items():
            for k in range(len(corners) // 2):
                with self.subTest(name, k=k):
                    for row in places_of_a_part(part(begun_at(corners, k), 1, LEAST_PART, -GREATEST)):
                        self.taken(row)

    def test_every_row_of_corners_on_a_small_grid(self):
        found = {True: 0, False: 0}
        numbers = Numbers(1)
        for count in (3, 4, 5, 6):
            for _ in range(1500):
                corners = [numbers.below(4) for _ in range(2 * count)]
                if count > 4:
                    corners = [number for point in random_piece(numbers, 3) for number in point]
                    place = numbers.below(len(corners))
                    corners[place] += numbers.below(3) - 1
                row = part(corners)
                wanted = reckon.handed(row) is not None
                found[wanted] += 1
                if wanted:
                    self.taken(row)
                else:
                    self.refused(row)
        self.assertGreater(min(found.values()), 100)


class Many(Handed):
    STRIPS = [box(k, 0, k + 1, 2) for k in range(-40, 40)]
    HALF_STRIPS = sum([[s[:6], s[:2] + s[4:]] for s in STRIPS], [])
    F = box(-40, 0, 40, 2)

    def rows(self, count):
        """So many parts; with 160 all of F, with 161 the last one is parted again."""
        parts = [part(corners) for corners in self.HALF_STRIPS]
        if count == 161:
            ahead, end, low = self.HALF_STRIPS[-1][:2], self.HALF_STRIPS[-1][2:4], self.HALF_STRIPS[-1][4:]
            inner = [Fraction(end[0] + low[0], 2), Fraction(end[1] + low[1], 2)]
            parts[-1:] = [part(ahead + end + inner), part(ahead + inner + low)]
        return sum(parts[:count], [])

    def test_160(self):
        row = self.rows(160)
        self.assertEqual(len(reckon.handed(row)), 160)
        self.assertEqual(why(self.F, self.F, row), [1])
        self.assertEqual(fewer(row), [1] + part(self.F))
        self.assertEqual(slid(row), [160, 0])
        self.assertEqual(sizes(row), [160] + [1, 1] * 160)

    def test_161(self):
        row = self.rows(161)
        self.assertEqual(len(reckon.handed(row)), 161)
        self.refused(row, -28)

    def test_as_many_as_there_can_be(self):
        row = TRIANGLE * 222
        self.assertLessEqual(len(row), 4000)
        self.refused(row, -28)

    def test_too_many_of_which_one_is_wrong(self):
        for bad in (part(NO_PIECES["an inner corner"]), NO_TURNS["2"], counted(2), part([0, 0, 0, 2, 2, 0])):
            for ahead in (0, 1, 80, 159, 160):
                row = TRIANGLE * ahead + bad + TRIANGLE * (160 - ahead)
                self.refused(row)
            self.refused(TRIANGLE * 161 + bad)
        self.refused(TRIANGLE * 161 + [0])
        self.refused((TRIANGLE * 162)[:-1])

    def test_no_parts(self):
        self.assertEqual(why(WHOLE, WHOLE, []), [0, 6, 0, 0])
        self.assertEqual(fewer([]), [0])
        self.assertEqual(slid([]), [0, 0])
        self.assertEqual(sizes([]), [0])


class WhichOfSeveral(unittest.TestCase):
    TOO_MANY = TRIANGLE * 161
    OTHER = box(0, 0, 3, 3)

    def test_no_figure(self):
        for name, figure in NO_FIGURES.items():
            with self.subTest(name):
                for row in (TRIANGLE, [], self.TOO_MANY, [7]):
                    self.assertEqual(why(figure, WHOLE, row), [-22])
                    self.assertEqual(why(WHOLE, figure, row), [-22])
                    self.assertEqual(why(figure, figure, row), [-22])

    def test_no_cutting_ahead_of_what_is_wrong(self):
        for bad in ([7], part(NO_PIECES["an inner corner"]), TRIANGLE + TRIANGLE + [0]):
            self.assertEqual(why(WHOLE, self.OTHER, bad), [-22])
            self.assertEqual(why(WHOLE, WHOLE, bad), [-22])

    def test_too_many_ahead_of_what_is_wrong(self):
        self.assertEqual(why(WHOLE, self.OTHER, self.TOO_MANY), [-28])
        self.assertEqual(why(self.OTHER, self.OTHER, self.TOO_MANY), [-28])

    def test_as_many_as_may_be_and_sizes_that_differ(self):
        self.assertEqual(why(WHOLE, self.OTHER, TRIANGLE * 160), [0, 1, 0, 0])


class KeptAsItWas(unittest.TestCase):
    CALLS = (fewer, slid, sizes, lambda c: why(WHOLE, WHOLE, c))
    ROWS = ([], TRIANGLE, sum(GOOD, []), TRIANGLE * 2, TRIANGLE * 161, [7], part(arc(41)), HALVES[:-1],
            row_of(reckon.handed(part(box(0, 0, 1, 1)) + part(box(1, 0, 2, 1)))))

    def test_what_is_handed_in(self):
        for row in self.ROWS:
            for f, g in ((WHOLE, WHOLE), (WHOLE, box(0, 0, 1, 1)), ([1], WHOLE)):
                one, other, third = Unchanging(f), Unchanging(g), Unchanging(row)
                why(one, other, third)
                fewer(third)
                slid(third)
                sizes(third)
                self.assertEqual((list(one), list(other), list(third)), (f, g, row))

    def test_a_second_call_answers_as_the_first(self):
        first = [[call(list(row)) for call in self.CALLS] for row in self.ROWS]
        second = [[call(list(row)) for call in self.CALLS] for row in reversed(self.ROWS)]
        self.assertEqual(first, second[::-1])

    def test_an_answer_is_kept_nowhere(self):
        for row in self.ROWS:
            for call in self.CALLS:
                answer = call(row)
                copy = list(answer)
                answer.append(7)
                self.assertEqual(call(row), copy)

    def test_answers_are_plain_lists_of_whole_numbers(self):
        for row in self.ROWS:
            for call in self.CALLS:
                answer = call(row)
                self.assertIs(type(answer), list)
                for number in answer:
                    self.assertIs(type(number), int)


if __name__ == "__main__":
    unittest.main()
