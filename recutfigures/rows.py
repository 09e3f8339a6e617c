"""Cuttings as rows of numbers: how they're read, and how they're told."""

from recutfigures.parts import check_count
from recutfigures.pieces import begun, is_piece, size_of
from recutfigures.points import point_at, right_of, up_of
from recutfigures.ratios import common_factor

FEWEST_CORNERS = 3
MOST_CORNERS = 40
POINT_LENGTH = 4


class NoCutting(Exception):
    """What's handed in is no cutting."""


def read_fraction(numbers, place):
    above = numbers[place]
    below = numbers[place + 1]
    if below < 1 or common_factor(above, below) != 1:
        raise NoCutting()
    return (above, below)


def read_point(numbers, place):
    return point_at(read_fraction(numbers, place), read_fraction(numbers, place + 2))


def part_end(numbers, place):
    """The place behind the part that's told from a place on."""
    count = numbers[place]
    if count < FEWEST_CORNERS or count > MOST_CORNERS:
        raise NoCutting()
    end = place + 1 + count * POINT_LENGTH + 1 + POINT_LENGTH
    if end > len(numbers):
        raise NoCutting()
    return end


def read_part(numbers):
    """The part that's told by just these numbers."""
    way_place = len(numbers) - POINT_LENGTH
    turned = numbers[way_place - 1]
    corners = [read_point(numbers, k) for k in range(1, way_place - 1, POINT_LENGTH)]
    if turned < 0 or turned > 1 or not is_piece(corners):
        raise NoCutting()
    return (corners, (turned, read_point(numbers, way_place)))


def read_cutting(numbers):
    """The cutting that's told by the numbers; it may have no more parts than are allowed."""
    cutting = []
    place = 0
    while place < len(numbers):
        end = part_end(numbers, place)
        cutting.append(read_part(numbers[place:end]))
        place = end
    # What's no cutting is refused first, so all of it is read before it's counted.
    check_count(cutting)
    return cutting


def told_point(p):
    return list(right_of(p)) + list(up_of(p))


def told_part(part):
    corners, move = part
    numbers = [len(corners)]
    for corner in begun(corners):
        numbers.extend(told_point(corner))
    numbers.append(move[0])
    numbers.extend(told_point(move[1]))
    return numbers


def told(cutting):
    """How many parts, then each as it's told."""
    numbers = [len(cutting)]
    for part in cutting:
        numbers.extend(told_part(part))
    return numbers


def told_sizes(cutting):
    """How many parts, then how great each is."""
    numbers = [len(cutting)]
    for corners, move in cutting:
        numbers.extend(size_of(corners))
    return numbers
