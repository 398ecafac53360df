"""How many dots are live at once by an order of looks."""

from lookundone.errors import need
from lookundone.focusing import is_order
from lookundone.webkinds import near_of


def count_ahead(web, ahead, dot):
    """How many dots are live at dot if just the dots of ahead stand ahead of it; nothing is checked."""
    there = {other: True for other in web[2]}
    for one in (*ahead, dot):
        there[one] = True
        for other in near_of(web, one):
            there[other] = True
    return len([other for other in there if other not in ahead])


def live_at(web, order):
    """A tuple with the number of dots live at each place of the order."""
    need(is_order(web, order), "order")
    return tuple(count_ahead(web, order[:place], dot) for place, dot in enumerate(order))


def peak_of(web, order):
    """The greatest number of dots live at a place, or that of ins or outs if this is greater."""
    need(is_order(web, order), "order")
    return max([len(web[2]), len(web[3]), *live_at(web, order)])
