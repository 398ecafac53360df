"""The longest chains of looks of an even web."""

from lookundone.errors import NotEven
from lookundone.flowkinds import flow_arrows
from lookundone.heights import longest_chain
from lookundone.settling import flow_of
from lookundone.webkinds import is_even, looked_of


def chain_of(web):
    """A longest tuple of looked dots, each but the first in the lot of the one ahead of it."""
    if not is_even(web):
        raise NotEven(len(web[2]), len(web[3]))
    flow = flow_of(web)
    looked = looked_of(web)
    return longest_chain(looked, flow_arrows(looked, flow))
