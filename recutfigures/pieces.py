"""Pieces: lists of points, round on the left, bent to the left at each corner."""

from recutfigures.points import crossing, is_ahead, line_through, side_of, turning


def piece_of(corners):
    """The piece with these corners, of which neighbours may be the same."""
    return [corners[k] for k in range(len(corners)) if corners[k] != corners[k - 1]]


def clipped(corners, line):
    """What of a piece is on the left of the line; no corners if that's no piece."""
    sides = [side_of(line, corner) for corner in corners]
    if max(sides) <= 0:
        return []
    if min(sides) >= 0:
        return corners
    kept = []
    for k in range(len(corners)):
        if sides[k] * sides[k - 1] < 0:
            kept.append(crossing(corners[k - 1], corners[k], sides[k - 1], sides[k]))
        if sides[k] >= 0:
            kept.append(corners[k])
    return kept


def common(one, other):
    """The piece that's in both; no corners if there's none."""
    kept = one
    for k in range(len(other)):
        kept = clipped(kept, line_through(other[k - 1], other[k]))
        if len(kept) == 0:
            return kept
    return kept


def bent(corners):
    """The corners less the straight ones; none if one turns right at any."""
    kept = []
    for k in range(len(corners)):
        turn = turning(corners[k - 2], corners[k - 1], corners[k])
        if turn < 0:
            return []
        if turn > 0:
            kept.append(corners[k - 1])
    return kept


def glued(one, other):
    """The piece that both make; no corners if they make none."""
    # Two pieces that have no piece in common lie on two sides of a line. If
    # both together are a piece, each of them has on that line all that the
    # whole has there: a side of the one is a side of the other, the other way.
    for i in range(len(one)):
        for j in range(len(other)):
            if one[i] == other[j - 1] and one[i - 1] == other[j]:
                around = other[j:] + other[:j]
                return bent(one[i:] + one[:i] + around[1:-1])
    return []


def begun(corners):
    """The corners from the leftmost on, of like ones the lowest."""
    first = 0
    for k in range(len(corners)):
        if is_ahead(corners[k], corners[first]):
            first = k
    return corners[first:] + corners[:first]
