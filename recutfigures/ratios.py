"""Fractions, kept as pairs (p, q): nothing in common, and q 1 or more."""


def common_factor(a, b):
    """The greatest whole number that goes into both."""
    while b != 0:
        a, b = b, a % b
    return abs(a)


def ratio(p, q):
    """The fraction p over q; q isn't 0."""
    by = common_factor(p, q)
    if q < 0:
        by = -by
    return (p // by, q // by)


def plus(a, b):
    return ratio(a[0] * b[1] + b[0] * a[1], a[1] * b[1])


def minus(a, b):
    return ratio(a[0] * b[1] - b[0] * a[1], a[1] * b[1])


def times(a, b):
    return ratio(a[0] * b[0], a[1] * b[1])


def over(a, b):
    return ratio(a[0] * b[1], a[1] * b[0])


def negative(a):
    return (-a[0], a[1])


def is_more(a, b):
    return a[0] * b[1] > b[0] * a[1]


def whole_part(a):
    """The greatest whole number that isn't more than a."""
    return a[0] // a[1]
