"""Points, and ways from one to another.

Either is kept as three whole numbers (x, y, d): x over d to the right, y over
d up. d is 1 or more and the three have nothing in common, so that what is the
same is told alike.
"""

from recutfigures.ratios import common_factor, ratio


def point(x, y, d):
    """The point x over d to the right, y over d up; d isn't 0."""
    by = common_factor(common_factor(d, x), y)
    if d < 0:
        by = -by
    return (x // by, y // by, d // by)


def point_at(right, up):
    """The point that lies by two fractions to the right and up."""
    return point(right[0] * up[1], up[0] * right[1], right[1] * up[1])


def right_of(p):
    """How far to the right p lies, a fraction."""
    return ratio(p[0], p[2])


def up_of(p):
    """How far up p lies, a fraction."""
    return ratio(p[1], p[2])


def added(p, q):
    return point(p[0] * q[2] + q[0] * p[2], p[1] * q[2] + q[1] * p[2], p[2] * q[2])


def opposite(p):
    return (-p[0], -p[1], p[2])


def scaled(p, by):
    """The way p, as often as the fraction by tells."""
    return point(p[0] * by[0], p[1] * by[0], p[2] * by[1])


def middle(p, q):
    return scaled(added(p, q), (1, 2))


def line_through(p, q):
    """The line from p to q: three numbers for side_of."""
    return (
        p[1] * q[2] - p[2] * q[1],
        p[2] * q[0] - p[0] * q[2],
        p[0] * q[1] - p[1] * q[0],
    )


def side_of(line, p):
    """More than 0 if p is on the left of the line, 0 if it's on it, else less."""
    return line[0] * p[0] + line[1] * p[1] + line[2] * p[2]


def turning(p, q, r):
    """More than 0 if one turns left at q, on the way from p to r; 0: straight."""
    return side_of(line_through(p, q), r)


def crossing(p, q, side_p, side_q):
    """Where the way from p to q meets the line that they're on two sides of."""
    return point(
        p[0] * side_q - q[0] * side_p,
        p[1] * side_q - q[1] * side_p,
        p[2] * side_q - q[2] * side_p,
    )


def is_higher(p, q):
    return p[1] * q[2] > q[1] * p[2]


def is_ahead(p, q):
    """If p is more to the left than q, or as far and lower."""
    right_p = p[0] * q[2]
    right_q = q[0] * p[2]
    if right_p == right_q:
        return is_higher(q, p)
    return right_p < right_q
