"""How many rounds arrows take, and the longest chains of them."""

from lookundone.arrowkinds import dots_ahead, is_arrows_of
from lookundone.errors import need
from lookundone.linear import linear_order


def height_by_dot(dots, arrows):
    """A dict with the round of each of the dots, None if there is a ring; nothing is checked."""
    order = linear_order(dots, arrows)
    if order is None:
        return None
    ahead = dots_ahead(dots, arrows)
    heights = {}
    for dot in order:
        heights[dot] = 1 + max([heights[other] for other in ahead[dot]], default=0)
    return heights


def heights_of(dots, arrows):
    """Pairs (dot, round) for all the dots, ascending, None if there is a ring."""
    need(is_arrows_of(dots, arrows), "arrows")
    heights = height_by_dot(dots, arrows)
    return None if heights is None else tuple(sorted(heights.items()))


def longest_chain(dots, arrows):
    """A longest tuple of the dots with an arrow from each to the next one."""
    need(is_arrows_of(dots, arrows), "arrows")
    heights = height_by_dot(dots, arrows)
    need(heights is not None, "arrows")
    ahead = dots_ahead(dots, arrows)
    chain = []
    wanted = max(heights.values(), default=0)
    fitting = dots
    while wanted > 0:
        last = [dot for dot in fitting if heights[dot] == wanted][0]
        chain.append(last)
        fitting = ahead[last]
        wanted -= 1
    return tuple(chain[::-1])
