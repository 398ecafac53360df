"""The size of an exact value, and the sign of whole numbers with the root of two."""

from lookundone.errors import need
from lookundone.exacts import exact_product, mirror_of
from lookundone.kinds import is_integer


def size_of(exact):
    """The pair (whole, part) such that exact times its mirror is whole + part r."""
    product = exact_product(exact, mirror_of(exact))
    return (product[0], product[1])


def sign_of(whole, part):
    """1, 0 or -1 as whole + part r is above, at or below 0, r being the positive root of two."""
    need(is_integer(part), "part")
    if whole == 0 and part == 0:
        return 0
    # The sign is that of the one with the greater square; the squares are never the same.
    greater = whole if whole * whole > 2 * part * part else part
    return 1 if greater > 0 else -1
