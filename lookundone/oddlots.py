"""Sums of lots, odd lots, and ties within lots."""

from lookundone.errors import need
from lookundone.kinds import is_lot, is_lot_of
from lookundone.webkinds import is_dot_of


def lot_sum(one, other):
    """The lot of the dots that lie in just one of the two lots."""
    need(is_lot(other), "other")
    alone = [dot for dot in one if dot not in other]
    alone.extend([dot for dot in other if dot not in one])
    return tuple(sorted(alone))


def sum_of_lots(lots):
    """The lot of the dots that lie in an odd number of the lots."""
    is_in = {}
    for lot in lots:
        for dot in lot:
            is_in[dot] = not is_in.get(dot, False)
    return tuple(sorted([dot for dot in is_in if is_in[dot]]))


def near_rows(web):
    """A dict with the row of bits of each dot's neighbours: place k of it is dot k of the web."""
    bits = {dot: 1 << place for place, dot in enumerate(web[0])}
    rows = {dot: 0 for dot in web[0]}
    for one, other in web[1]:
        rows[one] |= bits[other]
        rows[other] |= bits[one]
    return rows


def row_of_lot(web, lot):
    """The row of bits of a lot of the web's dots: place k of it is dot k of the web."""
    return sum([1 << place for place, dot in enumerate(web[0]) if dot in lot])


def odd_lot(web, lot):
    """The lot of the dots that are tied to an odd number of dots of the lot."""
    need(is_lot_of(web[0], lot), "lot")
    is_odd = {dot: False for dot in web[0]}
    for one, other in web[1]:
        if one in lot:
            is_odd[other] = not is_odd[other]
        if other in lot:
            is_odd[one] = not is_odd[one]
    return tuple(dot for dot in web[0] if is_odd[dot])


def ties_within(web, lot):
    """How many ties have both dots in the lot."""
    need(is_lot_of(web[0], lot), "lot")
    return len([tie for tie in web[1] if tie[0] in lot and tie[1] in lot])


def is_even_into(web, dot, lot):
    """True if dot is tied to an even number of dots of the lot."""
    need(is_dot_of(web[0], dot), "dot")
    return dot not in odd_lot(web, lot)
