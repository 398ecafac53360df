"""Rows whose sum is 0, and how many rows have no such sum."""

from lookundone.bitrows import places_of
from lookundone.solving import leads_of, lessened, with_lead


def kernel_of(rows):
    """Places of rows, not none, at which they have the sum 0, None if there are none."""
    leads = []
    for k, row in enumerate(rows):
        number, chosen = lessened(leads, row, 1 << k)
        if number == 0:
            return places_of(chosen)
        leads = with_lead(leads, number, chosen)
    return None


def rank_of(rows):
    """The greatest number of rows that have no sum 0."""
    return len(leads_of(rows))
