"""A flow, from lots by which the looks of an order can be led."""

from lookundone.errors import NotUsable, need
from lookundone.kinds import is_dots_of, is_lot_of, is_tuple_of
from lookundone.oddlots import odd_lot, sum_of_lots
from lookundone.webkinds import looked_of, made_of


def is_order(web, thing):
    """True if thing is an order of the web."""
    looked = looked_of(web)
    return is_dots_of(looked, thing) and len(thing) == len(looked)


def leads_at(web, order, place, thing):
    """True if thing is a lot by which the look at this place of the order can be led."""
    seen = order[:place + 1]
    unseen = [dot for dot in made_of(web) if dot not in seen]
    if not is_lot_of(unseen, thing):
        return False
    return [dot for dot in odd_lot(web, thing) if dot in seen] == [order[place]]


def focused(web, order, lots):
    """The flow that comes of lots by which the looks of the order can be led."""
    need(is_order(web, order), "order")
    need(is_tuple_of(len(order), lots), "lots")
    for k, lot in enumerate(lots):
        if not leads_at(web, order, k, lot):
            raise NotUsable("lots", k)
    found = {}
    for dot, lot in reversed(list(zip(order, lots))):
        odd = odd_lot(web, lot)
        found[dot] = sum_of_lots([lot, *[found[other] for other in odd if other in found]])
    return tuple(sorted(found.items()))
