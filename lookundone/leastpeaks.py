"""The least peak of an account's orders, and what shows that there is none below it."""

from lookundone.accountkinds import waits_at
from lookundone.errors import InvalidPaper
from lookundone.focusing import is_order
from lookundone.kinds import is_ascending, is_integer, is_lot_of, is_tuple_of
from lookundone.livecounts import count_ahead, peak_of
from lookundone.lookrounds import keeps_waits
from lookundone.webkinds import looked_of


def next_lots(account, lot):
    """Pairs (dot, lot) of the looked dots that may come behind those of the lot, and the lot with them."""
    return [
        (dot, tuple(sorted([*lot, dot])))
        for dot in looked_of(account[0])
        if dot not in lot and all(other in lot for other in waits_at(account, dot))
    ]


def orders_by_lot(account):
    """A dict with the pair (peak, order) of an order with the least peak, for each lot with which looks may begin."""
    web = account[0]
    level = {(): (max(len(web[2]), len(web[3])), ())}
    for _ in looked_of(web):
        found = {}
        for lot, (peak, order) in level.items():
            for dot, more in next_lots(account, lot):
                new_peak = max(peak, count_ahead(web, lot, dot))
                if more not in found or new_peak < found[more][0]:
                    found[more] = (new_peak, (*order, dot))
        level = found
    return level


def family_for(account, peak):
    """The lots with which looks may begin such that fewer dots than the peak are ever live."""
    family = {(): True}
    level = [()]
    while level:
        found = []
        for lot in level:
            for dot, more in next_lots(account, lot):
                if more not in family and count_ahead(account[0], lot, dot) < peak:
                    family[more] = True
                    found.append(more)
        level = found
    return tuple(sorted(family))


def least_peak(account):
    """The least peak of all orders that keep the waits, such an order, and why there is none with a lower one."""
    web = account[0]
    peak, order = orders_by_lot(account)[looked_of(web)]
    if peak in (len(web[2]), len(web[3])):
        return (peak, order, ("ends",))
    return (peak, order, ("family", family_for(account, peak)))


def is_reason(thing):
    """True if thing is ("ends",), or a pair that begins with "family"."""
    return thing == ("ends",) or is_tuple_of(2, thing) and thing[0] == "family"


def lets_peak(account, thing):
    """The peak of such a triple of the account."""
    web = account[0]
    if not (is_tuple_of(3, thing) and is_reason(thing[2])):
        raise InvalidPaper("shape", -1)
    peak, order, reason = thing
    if not (is_order(web, order) and keeps_waits(account, order)):
        raise InvalidPaper("order", -1)
    if not (is_integer(peak) and peak == peak_of(web, order)):
        raise InvalidPaper("peak", -1)
    if reason[0] == "family":
        check_family(account, peak, reason[1])
    elif peak not in (len(web[2]), len(web[3])):
        raise InvalidPaper("ends", -1)
    return peak


def is_family(looked, thing):
    """True if thing is an ascending tuple of lots of looked dots, () among them, but not all looked dots."""
    if not (isinstance(thing, tuple) and all(is_lot_of(looked, part) for part in thing)):
        return False
    return is_ascending(thing) and () in thing and looked not in thing


def check_family(account, peak, lots):
    """Refuse lots that are no family for the peak."""
    if not is_family(looked_of(account[0]), lots):
        raise InvalidPaper("family", -1)
    for k, lot in enumerate(lots):
        for dot, more in next_lots(account, lot):
            if more not in lots and count_ahead(account[0], lot, dot) < peak:
                raise InvalidPaper("lot", k)
