"""Cuttings: lists of parts. A part is a piece and a move.

A move is (turned, way): if turned is 1, first each point goes to its opposite;
then it's slid by the way.
"""

from recutfigures.pieces import common, glued
from recutfigures.points import added, opposite

MOST_PARTS = 160


class TooMuch(Exception):
    """It would be too much to cut."""


def moved_point(p, move):
    turned, way = move
    if turned == 1:
        return added(opposite(p), way)
    return added(p, way)


def moved_piece(corners, move):
    return [moved_point(corner, move) for corner in corners]


def move_back(move):
    """The move that undoes a move."""
    turned, way = move
    if turned == 1:
        return move
    return (0, opposite(way))


def move_then(first, second):
    """The move that does what the first and then the second does."""
    return (first[0] ^ second[0], moved_point(first[1], second))


def check_count(cutting):
    if len(cutting) > MOST_PARTS:
        raise TooMuch()


def behind(first, second):
    """The first cutting, and the second behind it."""
    cutting = []
    for corners, move in first:
        placed = moved_piece(corners, move)
        back = move_back(move)
        for other, next_move in second:
            both = common(placed, other)
            if len(both) > 0:
                cutting.append((moved_piece(both, back), move_then(move, next_move)))
        # What's put behind parts them further, never fewer: it can stop here.
        check_count(cutting)
    return cutting


def taken_back(cutting):
    return [(moved_piece(corners, move), move_back(move)) for corners, move in cutting]


def slid_on(cutting, way):
    """The cutting of which each part is slid by the way at last."""
    return [(corners, move_then(move, (0, way))) for corners, move in cutting]


def slid_and_turned(cutting):
    """How many parts are slid alone, then how many are turned."""
    turned = sum([move[0] for corners, move in cutting])
    return [len(cutting) - turned, turned]


def both_joined(one, other):
    """The piece that two parts make; no corners if they can't be joined."""
    if one[1] != other[1]:
        return []
    return glued(one[0], other[0])


def join_first(parts, place, others):
    """Joins the part at a place with the first of the others that it can be joined with.

    The two then are where the earlier one was; that place is answered, or -1.
    """
    for k in others:
        corners = both_joined(parts[place], parts[k])
        if len(corners) > 0:
            early = min(place, k)
            parts[early] = (corners, parts[early][1])
            parts.pop(max(place, k))
            return early
    return -1


def joined(cutting):
    parts = list(cutting)
    place = 0
    while place < len(parts):
        # No part ahead of this place can be joined with any but, if it has
        # just been made, with the one at this place.
        changed = join_first(parts, place, list(range(place)))
        if changed < 0:
            changed = join_first(parts, place, list(range(place + 1, len(parts))))
        place = changed if changed >= 0 else place + 1
    return parts
