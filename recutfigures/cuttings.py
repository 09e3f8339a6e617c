"""The calls: what cuts one figure into another."""

from recutfigures.figures import double_size, is_figure
from recutfigures.parts import TooMuch, behind, joined, taken_back
from recutfigures.pieces import begun
from recutfigures.points import right_of, up_of
from recutfigures.strips import cut_to_strip

NO_FIGURE = -22
OTHER_SIZE = -33
TOO_MUCH = -28

LEAST_WIDTH = 1
MOST_WIDTH = 20


def told_point(p):
    return list(right_of(p)) + list(up_of(p))


def told_part(part):
    corners, move = part
    numbers = [len(corners)]
    for corner in begun(corners):
        numbers.extend(told_point(corner))
    numbers.append(move[0])
    numbers.extend(told_point(move[1]))
    return numbers


def told(cutting):
    """How many parts, then each as it's told."""
    numbers = [len(cutting)]
    for part in cutting:
        numbers.extend(told_part(part))
    return numbers


def from_one_to_other(w, f, g):
    """The cutting from f to g, its parts joined."""
    return joined(behind(cut_to_strip(f, w), taken_back(cut_to_strip(g, w))))


def between(w, f, g):
    """How many parts, then the cutting from f to g by the strip of width w."""
    if w < LEAST_WIDTH or w > MOST_WIDTH or not is_figure(f) or not is_figure(g):
        return [NO_FIGURE]
    if double_size(f) != double_size(g):
        return [OTHER_SIZE]
    try:
        cutting = from_one_to_other(w, f, g)
    except TooMuch:
        return [TOO_MUCH]
    return told(cutting)
