"""Inverse rows, products of rows, and rows turned into columns."""

from lookundone.bitrows import are_rows, rows_at, sum_of_rows
from lookundone.errors import need
from lookundone.kinds import is_number, is_number_below
from lookundone.solving import leads_of


def inverse_rows(rows):
    """The rows whose product with these is (1, 2, 4, ..), None if there are none."""
    many = len(rows)
    need(all(is_number_below(1 << many, row) for row in rows), "rows")
    leads = leads_of(rows)
    if len(leads) < many:
        return None
    # With as many leads as places, each lead has its own place alone.
    chosen_by_bit = {place_bit: chosen for place_bit, _, chosen in leads}
    return tuple(chosen_by_bit[1 << place] for place in range(many))


def product_rows(rows, others):
    """For each row the sum of the others at its places."""
    need(are_rows(others) and all(row.bit_length() <= len(others) for row in rows), "others")
    return tuple(sum_of_rows(rows_at(others, row)) for row in rows)


def flipped_rows(rows, wide):
    """For each of wide places the number of the rows that have it."""
    need(is_number(wide), "wide")
    return tuple(
        sum([1 << k for k, row in enumerate(rows) if row >> place & 1]) for place in range(wide)
    )
