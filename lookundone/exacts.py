"""Exact values: sums, products, mirrors, units, and what is left by the root of two."""

from lookundone.errors import need
from lookundone.kinds import is_exact

NOUGHT = (0, 0, 0, 0)
ONE = (1, 0, 0, 0)
ROOT = (0, 1, 0, -1)


def exact_sum(one, other):
    """The sum of two exact values, which are not checked."""
    a, b, c, d = one
    e, f, g, h = other
    return (a + e, b + f, c + g, d + h)


def exact_less(one, other):
    """One less other, exact values that are not checked."""
    a, b, c, d = one
    e, f, g, h = other
    return (a - e, b - f, c - g, d - h)


def exact_product(one, other):
    """The product of two exact values, which are not checked."""
    a, b, c, d = one
    e, f, g, h = other
    return (
        a * e - b * h - c * g - d * f,
        a * f + b * e - c * h - d * g,
        a * g + b * f + c * e - d * h,
        a * h + b * g + c * f + d * e,
    )


def plus(one, other):
    """The sum of two exact values."""
    need(is_exact(other), "other")
    return exact_sum(one, other)


def minus(one, other):
    """One exact value less the other."""
    need(is_exact(other), "other")
    return exact_less(one, other)


def times(one, other):
    """The product of two exact values."""
    need(is_exact(other), "other")
    return exact_product(one, other)


def mirror_of(exact):
    """The exact value with 1 / w in the place of w."""
    a, b, c, d = exact
    return (a, -d, -c, -b)


def unit(turn):
    """The eighth root of one, w, to the turn."""
    sign = 1 if turn < 4 else -1
    return tuple(sign if place == turn % 4 else 0 for place in range(4))


def turn_of(exact):
    """The turn whose unit the exact value is, None if there is none."""
    for turn in range(8):
        if unit(turn) == exact:
            return turn
    return None


def by_root(exact):
    """The exact value that times r is this one, None if there is none."""
    a, b, c, d = exact
    if (b - d) % 2 or (a + c) % 2:
        return None
    return ((b - d) // 2, (a + c) // 2, (b + d) // 2, (c - a) // 2)


def by_roots(exact, power):
    """The pair (value, power) for exact over r to the power, with the least power that is a number."""
    if exact == NOUGHT:
        return NOUGHT, 0
    while power > 0:
        lesser = by_root(exact)
        if lesser is None:
            break
        exact = lesser
        power -= 1
    return exact, power


def times_roots(exact, many):
    """The exact value times r to the many, a number."""
    a, b, c, d = exact
    # r times r is 2, so only an odd r is left to be multiplied.
    twos = many // 2
    grown = (a << twos, b << twos, c << twos, d << twos)
    return exact_product(grown, ROOT) if many % 2 else grown
