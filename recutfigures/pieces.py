"""Pieces: lists of points, round on the left, bent to the left at each corner."""

from recutfigures.points import crossing, is_ahead, line_through, side_of, turning
from recutfigures.ratios import ratio


def piece_of(corners):
    """The piece with these corners, of which neighbours may be the same."""
    return [corners[k] for k in range(len(corners)) if corners[k] != corners[k - 1]]


def lines_of(corners):
    """The lines of the sides, each from the corner ahead to the corner."""
    return [line_through(corners[k - 1], corners[k]) for k in range(len(corners))]


def is_beyond(corners, line):
    """If no corner is on the left of the line."""
    for corner in corners:
        if side_of(line, corner) > 0:
            return False
    return True


def is_piece(corners):
    """If from each side all other corners are on its left."""
    for k in range(len(corners)):
        around = corners[k:] + corners[:k]
        line = line_through(around[-1], around[0])
        if min([side_of(line, corner) for corner in around[1:-1]]) <= 0:
            return False
    return True


def double_size_of(corners):
    """Twice the size of a piece: a number over another, perhaps with something in common."""
    below = 1
    for corner in corners:
        below *= corner[2]
    above = 0
    for k in range(len(corners)):
        p = corners[k - 1]
        q = corners[k]
        above += (p[0] * q[1] - p[1] * q[0]) * (below // (p[2] * q[2]))
    return (above, below)


def size_of(corners):
    """How great a piece is, a fraction."""
    above, below = double_size_of(corners)
    return ratio(above, 2 * below)


def clipped(corners, line):
    """What of a piece is on the left of the line; no corners if that's no piece."""
    sides = [side_of(line, corner) for corner in corners]
    if max(sides) <= 0:
        return []
    if min(sides) >= 0:
        return corners
    kept = []
    for k in range(len(corners)):
        if sides[k] * sides[k - 1] < 0:
            kept.append(crossing(corners[k - 1], corners[k], sides[k - 1], sides[k]))
        if sides[k] >= 0:
            kept.append(corners[k])
    return kept


def common(one, other):
    """The piece that's in both; no corners if there's none."""
    kept = one
    for line in lines_of(other):
        kept = clipped(kept, line)
        if len(kept) == 0:
            return kept
    return kept


def bent(corners):
    """The corners less the straight ones; none if one turns right at any."""
    kept = []
    for k in range(len(corners)):
        turn = turning(corners[k - 2], corners[k - 1], corners[k])
        if turn < 0:
            return []
        if turn > 0:
            kept.append(corners[k - 1])
    return kept


def glued(one, other):
    """The piece that both make; no corners if they make none."""
    # Two pieces that have no piece in common lie on two sides of a line. If
    # both together are a piece, each of them has on that line all that the
    # whole has there: a side of the one is a side of the other, the other way.
    # And where that's so they lie on its two sides: they've none in common.
    for i in range(len(one)):
        for j in range(len(other)):
            if one[i] == other[j - 1] and one[i - 1] == other[j]:
                around = other[j:] + other[:j]
                return bent(one[i:] + one[:i] + around[1:-1])
    return []


def begun(corners):
    """The corners from the leftmost on, of like ones the lowest."""
    first = 0
    for k in range(len(corners)):
        if is_ahead(corners[k], corners[first]):
            first = k
    return corners[first:] + corners[:first]
