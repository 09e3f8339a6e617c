"""The calls: what cuts one figure into another, and cuttings that are handed in."""

from recutfigures.faults import fault
from recutfigures.figures import double_size, is_figure
from recutfigures.parts import TooMuch, behind, joined, slid_and_turned, taken_back
from recutfigures.rows import NoCutting, read_cutting, told, told_sizes
from recutfigures.strips import cut_to_strip

NO_SUCH = -22
OTHER_SIZE = -33
TOO_MUCH = -28

LEAST_WIDTH = 1
MOST_WIDTH = 20

RIGHT = 1
WRONG = 0


def from_one_to_other(w, f, g):
    """The cutting from f to g, its parts joined."""
    return joined(behind(cut_to_strip(f, w), taken_back(cut_to_strip(g, w))))


def between(w, f, g):
    """How many parts, then the cutting from f to g by the strip of width w."""
    if w < LEAST_WIDTH or w > MOST_WIDTH or not is_figure(f) or not is_figure(g):
        return [NO_SUCH]
    if double_size(f) != double_size(g):
        return [OTHER_SIZE]
    try:
        cutting = from_one_to_other(w, f, g)
    except TooMuch:
        return [TOO_MUCH]
    return told(cutting)


def of_cutting(c, answer):
    """What's answered for the cutting that c tells, or a refusal."""
    try:
        cutting = read_cutting(c)
    except NoCutting:
        return [NO_SUCH]
    except TooMuch:
        return [TOO_MUCH]
    return answer(cutting)


def looked_at(f, g, cutting):
    """1 if a cutting is right from f to g; else 0, and three numbers for what's wrong."""
    wrong = fault(f, g, cutting)
    if len(wrong) > 0:
        return [WRONG] + wrong
    return [RIGHT]


def why(f, g, c):
    """What's wrong with cutting c from f to g, if anything is."""
    if not is_figure(f) or not is_figure(g):
        return [NO_SUCH]
    return of_cutting(c, lambda cutting: looked_at(f, g, cutting))


def fewer(c):
    """How many parts, then cutting c with its parts joined."""
    return of_cutting(c, lambda cutting: told(joined(cutting)))


def slid(c):
    """How many parts of cutting c are slid alone, then how many are turned."""
    return of_cutting(c, slid_and_turned)


def sizes(c):
    """How many parts cutting c has, then how great each is, a fraction."""
    return of_cutting(c, told_sizes)
