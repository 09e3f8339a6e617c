"""What's wrong with a cutting from one figure to another.

Pieces, and sides of figures, are looked at here as (corners, lines): the lines
lead along the sides, and what's within is on the left of each. A side of a
figure has two corners, and is gone along there and back.
"""

from recutfigures.figures import corners_of, double_size
from recutfigures.parts import moved_piece
from recutfigures.pieces import double_size_of, is_beyond, lines_of
from recutfigures.points import is_higher, middle, point, turning

SIZES_DIFFER = 1
OUT_OF_FIRST = 2
OUT_OF_SECOND = 3
COMMON_IN_FIRST = 4
COMMON_IN_SECOND = 5
LEFT_OUT = 6


def lined(corners):
    return (corners, lines_of(corners))


def is_kept_out(corners, lines):
    """If one of the lines has none of the corners on its left."""
    for line in lines:
        if is_beyond(corners, line):
            return True
    return False


def do_overlap(one, other):
    """If what's within the one and what's within the other (or the side) meet."""
    # If they don't, then one of their own lines has the one on its left and
    # the other beyond it: so no piece in common needs to be worked out.
    return not is_kept_out(one[0], other[1]) and not is_kept_out(other[0], one[1])


def first_two(pieces):
    """The places of the first two that have a piece in common; empty if none have."""
    for i in range(len(pieces)):
        for j in range(i + 1, len(pieces)):
            if do_overlap(pieces[i], pieces[j]):
                return [i, j]
    return []


def sides_of(figure):
    corners = [point(right, up, 1) for right, up in corners_of(figure)]
    return [lined([corners[k - 1], corners[k]]) for k in range(len(corners))]


def is_around(sides, inner):
    """If a figure is round a point that's on none of its sides."""
    on_the_right = 0
    for ends, lines in sides:
        leads_up = is_higher(ends[1], inner)
        at_level = is_higher(ends[0], inner) != leads_up
        if at_level and (turning(ends[0], ends[1], inner) > 0) == leads_up:
            on_the_right += 1
    return on_the_right % 2 == 1


def is_all_in(piece, sides):
    """If a piece is all in the figure with these sides."""
    for side in sides:
        if do_overlap(piece, side):
            return False
    # No side leads through it, so it's in or out as any point within it is.
    corners = piece[0]
    return is_around(sides, middle(corners[0], middle(corners[1], corners[2])))


def first_outside(pieces, figure):
    """The place of the first piece that isn't all in the figure, or -1."""
    sides = sides_of(figure)
    for i in range(len(pieces)):
        if not is_all_in(pieces[i], sides):
            return i
    return -1


def are_as_great(pieces, figure):
    """If all pieces together are as great as the figure."""
    above = 0
    below = 1
    for corners, lines in pieces:
        # What above and below have in common stays: to look for it would take
        # far longer than to reckon with numbers of many digits.
        more, under = double_size_of(corners)
        above = above * under + more * below
        below *= under
    return above == double_size(figure) * below


def fault(f, g, cutting):
    """The first thing that's wrong with a cutting from f to g, three numbers; empty if it's right."""
    if double_size(f) != double_size(g):
        return [SIZES_DIFFER, 0, 0]
    here = [lined(corners) for corners, move in cutting]
    place = first_outside(here, f)
    if place >= 0:
        return [OUT_OF_FIRST, place, 0]
    there = [lined(moved_piece(corners, move)) for corners, move in cutting]
    place = first_outside(there, g)
    if place >= 0:
        return [OUT_OF_SECOND, place, 0]
    pair = first_two(here)
    if len(pair) > 0:
        return [COMMON_IN_FIRST] + pair
    pair = first_two(there)
    if len(pair) > 0:
        return [COMMON_IN_SECOND] + pair
    if not are_as_great(here, f):
        return [LEFT_OUT, 0, 0]
    return []
