"""What several tests use: figures, rows of parts, numbers in a fixed order."""

from fractions import Fraction

import reckon

SQUARE = [0, 0, 2, 0, 2, 2, 0, 2]
LONG = [0, 0, 4, 0, 4, 1, 0, 1]
U = [0, 0, 5, 0, 5, 3, 4, 3, 4, 1, 1, 1, 1, 3, 0, 3]
NINE = [0, 0, 3, 0, 3, 3, 0, 3]
TWO_LEGS = [0, 0, 2, 2, 4, 0, 4, 4, 0, 4]
TWO_HORNS = [0, 0, 4, 0, 4, 4, 2, 2, 0, 4]
TWELVE = [0, 0, 4, 0, 4, 3, 0, 3]
DART = [0, 0, 4, 2, 0, 4, 1, 2]
COMB = [0, 0, 6, 0, 6, 4, 4, 1, 3, 5, 2, 1, 1, 3, 0, 1]
KITE = [0, 0, 3, 1, 4, 4, 1, 3]
OCTAGON = [0, 0, 2, 0, 3, 1, 3, 3, 2, 4, 0, 4, -1, 3, -1, 1]

GREATEST = 2 ** 256 - 1
LEAST_PART = Fraction(1, GREATEST)


class Unchanging(list):
    """A list that may not be changed."""

    def refuse(self, *words, **more):
        raise AssertionError("what was handed in was changed")

    append = extend = insert = pop = remove = clear = sort = reverse = refuse
    __setitem__ = __delitem__ = __iadd__ = __imul__ = refuse


class Numbers:
    """Numbers that look like any, the same ones each time."""

    def __init__(self, start):
        self.state = start

    def below(self, count):
        self.state = (self.state * 6364136223846793005 + 1442695040888963407) % 2 ** 64
        return (self.state >> 33) % count

    def one_of(self, row):
        return row[self.below(len(row))]

    def mixed(self, row):
        row = list(row)
        for k in range(len(row) - 1, 0, -1):
            j = self.below(k + 1)
            row[k], row[j] = row[j], row[k]
        return row


def slid(figure, right, up):
    return [figure[k] + (up if k % 2 else right) for k in range(len(figure))]


def turned(figure):
    return [-number for number in figure]


def upright(figure):
    """Turned by a quarter."""
    quarter = []
    for k in range(0, len(figure), 2):
        quarter += [-figure[k + 1], figure[k]]
    return quarter


def begun_at(corners, k):
    """The same corners, from the k-th on."""
    return corners[2 * k:] + corners[:2 * k]


def box(left, low, right, high):
    return [left, low, right, low, right, high, left, high]


def fraction(number):
    number = Fraction(number)
    return [number.numerator, number.denominator]


def part(corners, turn=0, right=0, up=0):
    """A part's numbers; corners are a row like a figure's, with fractions too."""
    row = [len(corners) // 2]
    for number in corners:
        row += fraction(number)
    return row + [turn] + fraction(right) + fraction(up)


def row_of(cutting):
    """The numbers of a cutting as the reckoning has it, corners as they stand."""
    row = []
    for piece, (turn, right, up) in cutting:
        row += part([number for point in piece for number in point], turn, right, up)
    return row


def arc(count):
    """A piece of that many corners."""
    corners = []
    for k in range(count):
        corners += [k, k * k]
    return corners


def random_piece(numbers, width, below=1):
    """A piece with corners on a grid so many wide and high, with these steps to 1."""
    piece = []
    while len(piece) < 3:
        points = [(numbers.below(width + 1), numbers.below(width + 1)) for _ in range(3 + numbers.below(4))]
        piece = reckon.hull([(Fraction(x, below), Fraction(y, below)) for x, y in points])
    start = numbers.below(len(piece))
    return piece[start:] + piece[:start]


def random_figure(numbers, count, width):
    while True:
        row = [numbers.below(width + 1) for _ in range(2 * count)]
        if reckon.is_figure(row):
            return row


# Figures of one size, with a width by which the one is cut into the other.
PAIRS = (
    (2, SQUARE, SQUARE), (2, SQUARE, LONG), (3, LONG, SQUARE), (5, SQUARE, slid(SQUARE, -7, 5)), (2, U, NINE),
    (3, TWO_LEGS, TWELVE), (4, TWELVE, TWO_HORNS), (1, TWO_HORNS, TWO_LEGS), (3, DART, turned(DART)),
    (2, COMB, begun_at(COMB, 3)), (1, KITE, [0, 0, 8, 0, 0, 2]), (2, DART, box(0, 0, 3, 2)),
    (3, OCTAGON, turned(OCTAGON)),
    (20, [-50, -50, 50, -50, -50, 50], box(-50, -25, 50, 25)), (4, [0, 0, 3, 0, 0, 3], [0, 0, 9, 0, 0, 1]),
)
