"""The tests' own reckoning: cuttings worked out once more, by other ways.

Points are pairs of Fraction. Nothing here is drawn from the program.
"""

import math
from fractions import Fraction

HALF = Fraction(1, 2)


class TooMuch(Exception):
    """The reckoning's own sign that it's too much."""


def pairs(row):
    return [(Fraction(row[k]), Fraction(row[k + 1])) for k in range(0, len(row), 2)]


def meet(one, other):
    """What two sides have in common, each corner to corner: the points at its ends."""
    (a, b), (c, d) = one, other
    right, up = (b[0] - a[0], b[1] - a[1]), (d[0] - c[0], d[1] - c[1])
    cross = right[0] * up[1] - right[1] * up[0]
    off = (c[0] - a[0], c[1] - a[1])
    if cross:
        along = Fraction(off[0] * up[1] - off[1] * up[0], cross)
        across = Fraction(off[0] * right[1] - off[1] * right[0], cross)
        if 0 <= along <= 1 and 0 <= across <= 1:
            return [(a[0] + along * right[0], a[1] + along * right[1])]
        return []
    if off[0] * right[1] != off[1] * right[0]:
        return []
    low, high = max(min(a, b), min(c, d)), min(max(a, b), max(c, d))
    return sorted({low, high}) if low <= high else []


def is_figure(row):
    """By what each two sides have in common, and by the size as it's counted."""
    if len(row) % 2 or not 6 <= len(row) <= 16 or max(map(abs, row)) > 50:
        return False
    corners = [(row[k], row[k + 1]) for k in range(0, len(row), 2)]
    count = len(corners)
    if len(set(corners)) < count:
        return False
    sides = [(corners[k], corners[(k + 1) % count]) for k in range(count)]
    for i in range(count):
        if area([corners[i - 2], corners[i - 1], corners[i]]) == 0:
            return False
        for j in range(i):
            both = meet(sides[i], sides[j])
            if j == i - 1 or (j, i) == (0, count - 1):
                if len(both) != 1:
                    return False
            elif both:
                return False
    return area(pairs(row)) > 0


def area(corners):
    """Counted below 0 where one goes round on the right."""
    total = Fraction(0)
    for (ax, ay), (bx, by) in zip(corners, corners[1:] + corners[:1]):
        total += (bx - ax) * (ay + by)
    return -total / 2


def hull(points):
    """Round on the left, from the leftmost (of like ones the lowest), none straight."""
    points = sorted(set(points))
    if len(points) < 3:
        return points

    def chain(ordered):
        row = []
        for p in ordered:
            while len(row) > 1 and area([row[-2], row[-1], p]) <= 0:
                row.pop()
            row.append(p)
        return row[:-1]

    return chain(points) + chain(points[::-1])


def far_apart(one, other):
    """If one lies wholly beside, above or below the other: seen quickly."""
    for side in (0, 1):
        first = [p[side] for p in one]
        second = [p[side] for p in other]
        if max(first) <= min(second) or max(second) <= min(first):
            return True
    return False


def overlap(one, other):
    """The piece that's in both convex ones, or none."""
    if far_apart(one, other):
        return []
    kept = list(one)
    for a, b in zip(other, other[1:] + other[:1]):
        old, kept = kept, []
        for p, q in zip(old, old[1:] + old[:1]):
            at_p, at_q = area([a, b, p]), area([a, b, q])
            if at_p >= 0:
                kept.append(p)
            if at_p * at_q < 0:
                part = at_p / (at_p - at_q)
                kept.append((p[0] + part * (q[0] - p[0]), p[1] + part * (q[1] - p[1])))
    piece = hull(kept)
    return piece if len(piece) > 2 and area(piece) > 0 else []


def moved(corners, move):
    turned, right, up = move
    sign = -1 if turned else 1
    return [(sign * x + right, sign * y + up) for x, y in corners]


def undo(move):
    turned, right, up = move
    return move if turned else (0, -right, -up)


def both_moves(one, other):
    turned, right, up = other
    sign = -1 if turned else 1
    return ((one[0] + turned) % 2, sign * one[1] + right, sign * one[2] + up)


def behind(one, other, limit=160):
    cutting = []
    for piece, move in one:
        for there, then in other:
            both = overlap(moved(piece, move), there)
            if both:
                cutting.append((hull(moved(both, undo(move))), both_moves(move, then)))
        if len(cutting) > limit:
            raise TooMuch
    return cutting


def back(cutting):
    return [(hull(moved(piece, move)), undo(move)) for piece, move in cutting]


def slide(cutting, right, up):
    return [(piece, both_moves(move, (0, right, up))) for piece, move in cutting]


def box(left, low, right, high):
    return [(left, low), (right, low), (right, high), (left, high)]


def slices(figure):
    corners = pairs(figure)
    heights = sorted({y for _, y in corners})
    for low, high in zip(heights, heights[1:]):
        across = []
        for p, q in zip(corners, corners[1:] + corners[:1]):
            if p[1] == q[1] or min(p[1], q[1]) > low or max(p[1], q[1]) < high:
                continue
            at_low, at_high = [p[0] + (q[0] - p[0]) * (y - p[1]) / (q[1] - p[1]) for y in (low, high)]
            across.append((at_low + at_high, at_low, at_high))
        across.sort()
        for left, right in zip(across[::2], across[1::2]):
            yield (left[1], low), (right[1], low), (right[2], high), (left[2], high)


def halves(a, b, c, d):
    left = ((a[0] + d[0]) / 2, (a[1] + d[1]) / 2)
    right = ((b[0] + c[0]) / 2, (b[1] + c[1]) / 2)
    stay = (0, Fraction(0), Fraction(0))
    return [
        (hull([a, b, left, right]), stay),
        (hull([c, d, left, right]), (1, 2 * right[0], 2 * right[1])),
    ]


def steps(a, b, c):
    """What's a wide and b high made c wide by stairs."""
    d = a * b / c
    old = box(0, 0, a, b)
    below = [(Fraction(0), d), (Fraction(0), Fraction(0)), (a, Fraction(0))]
    above = [(Fraction(0), d), (a, Fraction(0)), (a, d)]
    left = box(Fraction(0), Fraction(0), c, d)
    right = box(c, Fraction(0), a, d)
    zero = Fraction(0)
    return [
        (overlap(overlap(old, below), left), (0, zero, zero)),
        (overlap(overlap(old, below), right), (0, -c, b)),
        (overlap(old, above), (0, c - a, d - b)),
    ]


def to_width(a, b, w, limit=100000):
    zero = Fraction(0)
    cutting = []
    if a >= w:
        count = math.floor(a / w)
        wide = a / count
        for k in range(count):
            cutting.append((box(k * wide, zero, (k + 1) * wide, b), (0, -k * wide, k * b)))
        high = b * count
    else:
        count = math.floor(w / a)
        high = b / count
        for k in range(count):
            cutting.append((box(zero, k * high, a, (k + 1) * high), (0, k * a, -k * high)))
        wide = a * count
    if wide > w:
        return behind(cutting, steps(wide, high, w), limit)
    if wide < w:
        return behind(cutting, back(steps(Fraction(w), wide * high / w, wide)), limit)
    return cutting


def measures(a, b, c, d):
    """How long the lower and upper side are together; how far and high half the left one leads."""
    return b[0] - a[0] + c[0] - d[0], (d[0] - a[0]) / 2, (d[1] - a[1]) / 2


def slice_cut(a, b, c, d, w, limit):
    long, lean, high = measures(a, b, c, d)
    old = [a, (a[0] + long, a[1]), (a[0] + long + lean, a[1] + high), (a[0] + lean, a[1] + high)]
    new = box(a[0], a[1], a[0] + long, a[1] + high)
    shear = []
    for j in range(-130, 131):
        if abs(j) > abs(lean / long) + 2:
            continue
        both = overlap(old, moved(new, (0, j * long, Fraction(0))))
        if both:
            shear.append((both, (0, -j * long, Fraction(0))))
    level = slide(behind(halves(a, b, c, d), shear, limit), -a[0], -a[1])
    return behind(level, to_width(long, high, w), limit), long * high / w


def whole_strip(w, figure, limit):
    """The cutting to the strip; TooMuch with more parts than the limit."""
    cutting, up = [], Fraction(0)
    for four in slices(figure):
        more, high = slice_cut(*four, w, limit)
        cutting += slide(more, Fraction(0), up)
        up += high
    if len(cutting) > limit:
        raise TooMuch
    return cutting


def slice_reasons(w, figure):
    """Why the slices of a figure are too much, each reason once."""
    reasons = set()
    for four in slices(figure):
        long, lean, _ = measures(*four)
        if abs(lean / long) > 60:
            reasons.add("shear")
        if long > 60 * w:
            reasons.add("wide")
        if w > 60 * long:
            reasons.add("narrow")
    return reasons


def reasons(w, figure):
    """Every reason why it's too much to cut a figure to the strip."""
    found = slice_reasons(w, figure)
    if len(whole_strip(w, figure, 100000)) > 160:
        found.add("parts")
    return found


def shears(figure):
    return [-lean / long for long, lean, _ in [measures(*four) for four in slices(figure)]]


def widths(figure):
    return [measures(*four)[0] for four in slices(figure)]


def strip(w, figure):
    """The cutting to the strip, or TooMuch."""
    if slice_reasons(w, figure):
        raise TooMuch
    return whole_strip(w, figure, 160)


def one_piece(one, other):
    """What both make, by what lies between their corners; or none."""
    if overlap(one, other):
        return []
    whole = hull(one + other)
    return whole if area(whole) == area(one) + area(other) else []


def first_pair(parts, known, order):
    places = [(i, j) for i in range(len(parts)) for j in range(i + 1, len(parts))]
    for i, j in sorted(places, key=order):
        if parts[i][1] != parts[j][1]:
            continue
        key = (tuple(parts[i][0]), tuple(parts[j][0]))
        if key not in known:
            known[key] = one_piece(*map(list, key))
        if known[key]:
            return i, j, known[key]
    return None


def join(parts, order=None):
    """Joined in the order that's told; or, to compare, in another order of the pairs."""
    parts, known = list(parts), {}
    found = first_pair(parts, known, order)
    while found:
        i, j, whole = found
        parts[i] = (whole, parts[i][1])
        del parts[j]
        found = first_pair(parts, known, order)
    return parts


def before_joined(w, f, g, limit=160):
    return behind(strip(w, f), back(strip(w, g)), limit)


def told(cutting):
    row = [len(cutting)]
    for piece, (turned, right, up) in cutting:
        row.append(len(piece))
        for x, y in hull(piece):
            row += [x.numerator, x.denominator, y.numerator, y.denominator]
        row += [turned, right.numerator, right.denominator, up.numerator, up.denominator]
    return row


def between(w, f, g):
    """What's to be answered for two figures, w from 1 to 20."""
    if area(pairs(f)) != area(pairs(g)):
        return [-33]
    try:
        return told(join(before_joined(w, f, g)))
    except TooMuch:
        return [-28]


def read(answer):
    """The parts of an answer; what isn't told as it's to be is named by an AssertionError."""
    place = 1
    cutting = []

    def fraction(at):
        p, q = answer[at], answer[at + 1]
        assert q >= 1 and math.gcd(p, q) == 1, ("not in lowest terms", p, q)
        return Fraction(p, q)

    for _ in range(answer[0]):
        count = answer[place]
        assert count >= 3, "a piece of fewer than 3 corners"
        place += 1
        piece = [(fraction(k), fraction(k + 2)) for k in range(place, place + 4 * count, 4)]
        place += 4 * count
        assert answer[place] in (0, 1), "neither turned nor not"
        cutting.append((piece, (answer[place], fraction(place + 1), fraction(place + 3))))
        place += 5
        assert piece == hull(piece), "straight, not round on the left, or begun elsewhere"
    assert place == len(answer), "too many or too few numbers"
    return cutting


def place_of(point, corners):
    """1: strictly within; 0: on a side; -1: without. By the sides to the right of the point."""
    x, y = point
    within = False
    for (ax, ay), (bx, by) in zip(corners, corners[1:] + corners[:1]):
        turn = (bx - ax) * (y - ay) - (by - ay) * (x - ax)
        if turn == 0 and min(ax, bx) <= x <= max(ax, bx) and min(ay, by) <= y <= max(ay, by):
            return 0
        if (ay > y) != (by > y) and (turn > 0) == (by > ay):
            within = not within
    return 1 if within else -1


def area_within(piece, figure):
    """How much of a piece lies in a figure: by triangles, counted by which way round."""
    corners = pairs(figure)
    total = Fraction(0)
    for p, q in zip(corners[1:], corners[2:]):
        triangle = [corners[0], p, q]
        if area(triangle) > 0:
            total += sum([area(t) for t in [overlap(piece, triangle)] if t])
        elif area(triangle) < 0:
            total -= sum([area(t) for t in [overlap(piece, triangle[::-1])] if t])
    return total


def first_two(pieces):
    for i, piece in enumerate(pieces):
        for j in range(i + 1, len(pieces)):
            if overlap(piece, pieces[j]):
                return [i, j]
    return None


def why(f, g, cutting):
    """What's to be answered for two figures and a cutting: 1, or 0 and what's wrong."""
    if area(pairs(f)) != area(pairs(g)):
        return [0, 1, 0, 0]
    here = [piece for piece, _ in cutting]
    there = [moved(piece, move) for piece, move in cutting]
    for kind, pieces, figure in ((2, here, f), (3, there, g)):
        for i, piece in enumerate(pieces):
            if area_within(piece, figure) != area(piece):
                return [0, kind, i, 0]
    for kind, pieces in ((4, here), (5, there)):
        two = first_two(pieces)
        if two:
            return [0, kind] + two
    if sum(map(area, here)) != area(pairs(f)):
        return [0, 6, 0, 0]
    return [1]


def handed(row):
    """The parts that a row tells; None if it's no cutting."""
    cutting, rest = [], list(row)
    while rest:
        count = rest[0]
        if not 3 <= count <= 40 or len(rest) < 4 * count + 6:
            return None
        one, turned, way = rest[1:4 * count + 1], rest[4 * count + 1], rest[4 * count + 2:4 * count + 6]
        rest = rest[4 * count + 6:]
        values = []
        for above, below in zip((one + way)[::2], (one + way)[1::2]):
            if below < 1 or math.gcd(above, below) != 1:
                return None
            values.append(Fraction(above, below))
        piece = list(zip(values[:-2:2], values[1:-2:2]))
        start = piece.index(min(piece))
        if turned not in (0, 1) or piece[start:] + piece[:start] != hull(piece):
            return None
        cutting.append((piece, (turned, values[-2], values[-1])))
    return cutting


def answered(row, tell):
    """What's to be answered for a row: a refusal, or what's told of its parts."""
    cutting = handed(row)
    if cutting is None:
        return [-22]
    return tell(cutting) if len(cutting) <= 160 else [-28]


def fewer(row):
    """What's to be answered for a row, with parts joined."""
    return answered(row, lambda cutting: told(join(cutting)))


def slid(row):
    """What's to be answered for a row: how many parts aren't turned, how many are."""
    turns = (0, 1)
    return answered(row, lambda cutting: [[turn for _, (turn, _, _) in cutting].count(turn) for turn in turns])


def sizes(row):
    """What's to be answered for a row: how many parts, then how great each is."""
    def tell(cutting):
        numbers = [len(cutting)]
        for piece, _ in cutting:
            numbers += area(piece).as_integer_ratio()
        return numbers

    return answered(row, tell)
