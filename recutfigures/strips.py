"""Figures cut to a strip of a given width, slice by slice."""

from recutfigures.figures import slices_of
from recutfigures.parts import TooMuch, behind, check_count, slid_on, taken_back
from recutfigures.pieces import common, piece_of
from recutfigures.points import added, middle, opposite, point, point_at, right_of, scaled, up_of
from recutfigures.ratios import is_more, minus, negative, over, plus, ratio, times, whole_part

MOST_SHEAR = 60
MOST_TIMES = 60


def four_sided(o, u, v):
    """The piece with a corner o, and two ways from it, v on the left of u."""
    return [o, added(o, u), added(added(o, u), v), added(o, v)]


def upright(wide, high):
    """What's upright, with a corner at 0, 0."""
    return four_sided(point(0, 0, 1), point_at(wide, (0, 1)), point_at((0, 1), high))


def halved(bounds):
    """A slice, its upper half turned about the middle of its right side."""
    left_below, right_below, right_above, left_above = bounds
    left = middle(left_below, left_above)
    right = middle(right_below, right_above)
    lower = piece_of([left_below, right_below, right, left])
    upper = piece_of([left, right, right_above, left_above])
    return [(lower, (0, point(0, 0, 1))), (upper, (1, added(right_below, right_above)))]


def sheared(o, u, v, k):
    """What has four sides, with v made v and k times u."""
    old = four_sided(o, u, v)
    new = four_sided(o, u, added(v, scaled(u, k)))
    reach = whole_part((abs(k[0]), k[1])) + 1
    cutting = []
    for j in range(-reach, reach + 1):
        way = scaled(u, (j, 1))
        both = common(old, [added(corner, way) for corner in new])
        if len(both) > 0:
            cutting.append((both, (0, opposite(way))))
    return cutting


def stairs(a, b, c):
    """What's upright, a wide and b high, made c wide."""
    d = over(times(a, b), c)
    less = minus(a, c)
    more = minus(d, b)
    nothing = (0, 1)
    on_line = point_at(c, more)
    on_top = point_at(less, b)
    origin = point(0, 0, 1)
    first = piece_of([origin, point_at(c, nothing), on_line, on_top, point_at(nothing, b)])
    second = [point_at(c, nothing), point_at(a, nothing), on_line]
    third = [point_at(a, nothing), point_at(a, b), on_top]
    return [
        (first, (0, origin)),
        (second, (0, point_at(negative(c), b))),
        (third, (0, point_at(negative(less), more))),
    ]


def cells(count, wide, high, step, way):
    """As many alike, each a step behind the one before, and slid a way more."""
    cutting = []
    for k in range(count):
        far = scaled(step, (k, 1))
        corners = [added(corner, far) for corner in upright(wide, high)]
        cutting.append((corners, (0, scaled(way, (k, 1)))))
    return cutting


def narrowed(wide, high, count):
    """What's upright, cut into as many beside each other, put on one another."""
    part = over(wide, (count, 1))
    nothing = (0, 1)
    return cells(count, part, high, point_at(part, nothing), point_at(negative(part), high))


def widened(wide, high, count):
    """What's upright, cut into as many on one another, put beside each other."""
    part = over(high, (count, 1))
    nothing = (0, 1)
    return cells(count, wide, part, point_at(nothing, part), point_at(wide, negative(part)))


def made_wide(a, b, w):
    """What's upright, a wide and b high, made w wide."""
    if is_more(w, a):
        count = whole_part(over(w, a))
        first = widened(a, b, count)
        wide = times(a, (count, 1))
    else:
        count = whole_part(over(a, w))
        first = narrowed(a, b, count)
        wide = over(a, (count, 1))
    size = times(a, b)
    if is_more(wide, w):
        return behind(first, stairs(wide, over(size, wide), w))
    if is_more(w, wide):
        return behind(first, taken_back(stairs(w, over(size, w), wide)))
    return first


def check_slice(k, wide, w):
    """Refuses a shear by too much, and a width that's too far from w."""
    if abs(k[0]) > MOST_SHEAR * k[1]:
        raise TooMuch()
    most = (MOST_TIMES, 1)
    if is_more(wide, times(most, w)) or is_more(w, times(most, wide)):
        raise TooMuch()


def slice_cut(bounds, w, up):
    """A slice cut to what's w wide and lies so far up, and how far up that reaches."""
    left_below, right_below, right_above, left_above = bounds
    below = minus(right_of(right_below), right_of(left_below))
    above = minus(right_of(right_above), right_of(left_above))
    wide = plus(below, above)
    v = added(middle(left_below, left_above), opposite(left_below))
    k = negative(over(right_of(v), wide))
    check_slice(k, wide, w)
    u = point_at(wide, (0, 1))
    cutting = behind(halved(bounds), sheared(left_below, u, v, k))
    cutting = slid_on(cutting, opposite(left_below))
    cutting = behind(cutting, made_wide(wide, up_of(v), w))
    top = plus(up, over(times(wide, up_of(v)), w))
    return slid_on(cutting, point_at((0, 1), up)), top


def cut_to_strip(figure, width):
    """The figure's cutting to the strip of that width."""
    w = ratio(width, 1)
    cutting = []
    up = ratio(0, 1)
    for bounds in slices_of(figure):
        more, up = slice_cut(bounds, w, up)
        cutting = cutting + more
        check_count(cutting)
    return cutting
