"""Figures: rows of whole numbers that are looked at, and parted into slices."""

from recutfigures.points import point

FEWEST_CORNERS = 3
MOST_CORNERS = 8
FARTHEST = 50


def corners_of(figure):
    return [(figure[k], figure[k + 1]) for k in range(0, len(figure), 2)]


def turn_at(p, q, r):
    """More than 0 if one turns left at q, on the way from p to r; 0: straight or back."""
    return (q[0] - p[0]) * (r[1] - q[1]) - (q[1] - p[1]) * (r[0] - q[0])


def double_size(figure):
    """Twice the size of what's gone round on the left."""
    corners = corners_of(figure)
    double = 0
    for k in range(len(corners)):
        p = corners[k - 1]
        q = corners[k]
        double += p[0] * q[1] - p[1] * q[0]
    return double


def is_within(p, q, r):
    """If r, on the line through p and q, lies from the one to the other."""
    if r[0] < min(p[0], q[0]) or r[0] > max(p[0], q[0]):
        return False
    return r[1] >= min(p[1], q[1]) and r[1] <= max(p[1], q[1])


def do_meet(p, q, r, s):
    """If the sides from p to q and from r to s have a point in common."""
    turn_r = turn_at(p, q, r)
    turn_s = turn_at(p, q, s)
    turn_p = turn_at(r, s, p)
    turn_q = turn_at(r, s, q)
    if turn_r * turn_s < 0 and turn_p * turn_q < 0:
        return True
    if (turn_r == 0 and is_within(p, q, r)) or (turn_s == 0 and is_within(p, q, s)):
        return True
    return (turn_p == 0 and is_within(r, s, p)) or (turn_q == 0 and is_within(r, s, q))


def is_bent(corners):
    """If no corner is straight, turns back, or is the same as the next."""
    turns = [turn_at(corners[k - 2], corners[k - 1], corners[k]) for k in range(len(corners))]
    return all([turn != 0 for turn in turns])


def is_simple(corners):
    """If no two sides that don't follow each other have a point in common."""
    count = len(corners)
    for i in range(count):
        for j in range(i + 2, count):
            follow = i == 0 and j == count - 1
            if not follow and do_meet(corners[i - 1], corners[i], corners[j - 1], corners[j]):
                return False
    return True


def is_figure(numbers):
    count = len(numbers) // 2
    if len(numbers) != 2 * count or count < FEWEST_CORNERS or count > MOST_CORNERS:
        return False
    if min(numbers) < -FARTHEST or max(numbers) > FARTHEST:
        return False
    corners = corners_of(numbers)
    return is_bent(corners) and is_simple(corners) and double_size(numbers) > 0


def sides_across(corners, low, high):
    """The sides that reach from one height to the other, each from below on."""
    sides = []
    for k in range(len(corners)):
        p = corners[k - 1]
        q = corners[k]
        if p[1] > q[1]:
            p, q = q, p
        if p[1] <= low and q[1] >= high:
            sides.append((p, q))
    return sides


def doubled_right(side, height_doubled, scale):
    """How far to the right a side is at a height, as often as twice the scale says.

    How far up the side leads goes into the scale: so it's a whole number.
    """
    p, q = side
    rise = q[1] - p[1]
    return (2 * p[0] * rise + (q[0] - p[0]) * (height_doubled - 2 * p[1])) * (scale // rise)


def from_the_left(sides, low, high):
    """The sides in their order at half height."""
    scale = 1
    for p, q in sides:
        scale *= q[1] - p[1]
    return sorted(sides, key=lambda side: doubled_right(side, low + high, scale))


def point_on(side, height):
    p, q = side
    rise = q[1] - p[1]
    return point(p[0] * rise + (q[0] - p[0]) * (height - p[1]), height * rise, rise)


def slices_of(figure):
    """The slices from below on: left below, right below, right above, left above."""
    corners = corners_of(figure)
    heights = sorted(set([corner[1] for corner in corners]))
    slices = []
    for k in range(1, len(heights)):
        low = heights[k - 1]
        high = heights[k]
        sides = from_the_left(sides_across(corners, low, high), low, high)
        for i in range(0, len(sides), 2):
            left = sides[i]
            right = sides[i + 1]
            slices.append((
                point_on(left, low),
                point_on(right, low),
                point_on(right, high),
                point_on(left, high),
            ))
    return slices
