"""Orders of a web: whether each look can be led, and what bars it."""

from lookundone.bitrows import places_of
from lookundone.errors import InvalidPaper, need
from lookundone.focusing import is_order, leads_at
from lookundone.kinds import is_lot_of, is_number_below, is_tuple_of
from lookundone.oddlots import near_rows, odd_lot, row_of_lot
from lookundone.solving import bar_against, leads_of, lessened
from lookundone.webkinds import made_of


def unseen_made(web, order, place):
    """The made dots that are unseen at this place of the order, ascending."""
    return [dot for dot in made_of(web) if dot not in order[:place + 1]]


def lead_or_bar(web, order, place):
    """The pair (lot, bar) of a lot by which the look can be led and None, or None and a lot by which it is barred."""
    unseen = unseen_made(web, order, place)
    seen_row = row_of_lot(web, order[:place + 1])
    near = near_rows(web)
    leads = leads_of([near[dot] & seen_row for dot in unseen])
    number, chosen = lessened(leads, row_of_lot(web, (order[place],)), 0)
    if number == 0:
        return (tuple(unseen[at] for at in places_of(chosen)), None)
    return (None, tuple(web[0][at] for at in places_of(bar_against(leads, number))))


def allowed(web, order):
    """Lots that lead the looks of the order, or the first look that can't be led and what bars it."""
    need(is_order(web, order), "order")
    lots = []
    for place in range(len(order)):
        lot, bar = lead_or_bar(web, order, place)
        if lot is None:
            return ("barred", place, bar)
        lots.append(lot)
    return ("let", tuple(lots))


def is_let(web, order):
    """True if each look of the order can be led."""
    return allowed(web, order)[0] == "let"


def lets_allowed(web, order, thing):
    """The first value of thing, which tells whether the order is let, and why."""
    need(is_order(web, order), "order")
    if is_tuple_of(2, thing) and thing[0] == "let" and is_tuple_of(len(order), thing[1]):
        check_let(web, order, thing[1])
    elif is_tuple_of(3, thing) and thing[0] == "barred":
        check_barred(web, order, thing[1], thing[2])
    else:
        raise InvalidPaper("shape", -1)
    return thing[0]


def check_let(web, order, lots):
    """Refuse lots that do not lead the looks."""
    for k, lot in enumerate(lots):
        if not leads_at(web, order, k, lot):
            raise InvalidPaper("lot", k)


def check_barred(web, order, place, bar):
    """Refuse what does not bar a look."""
    if not is_number_below(len(order), place):
        raise InvalidPaper("place", -1)
    if not (is_lot_of(order[:place + 1], bar) and order[place] in bar):
        raise InvalidPaper("bar", -1)
    odd = odd_lot(web, bar)
    for dot in unseen_made(web, order, place):
        if dot in odd:
            raise InvalidPaper("even", dot)
