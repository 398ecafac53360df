"""Shut lots of a web: what can be put to a layer and what bars it, and the checkers of shut lots and of papers."""

from lookundone.bitrows import places_of
from lookundone.errors import InvalidPaper
from lookundone.flowkinds import lets_flow
from lookundone.kinds import are_rows_of_dots, is_lot_of, is_tuple_of
from lookundone.oddlots import near_rows, odd_lot, row_of_lot
from lookundone.solving import bar_against, leads_of, lessened
from lookundone.tellinglots import lets_telling
from lookundone.webkinds import looked_of, made_of


def outside_of(web, layer):
    """The dots of the web that are not in the layer."""
    return tuple(dot for dot in web[0] if dot not in layer)


def layer_leads(web, layer):
    """Leads that have the same sums as the neighbours, outside the layer, of the layer's made dots, ascending."""
    outside_row = row_of_lot(web, outside_of(web, layer))
    near = near_rows(web)
    return leads_of([near[dot] & outside_row for dot in made_of(web) if dot in layer])


def put_to(web, layer):
    """A dict of the dots that can be put to the layer, each with a lot of the layer's made dots that does it."""
    made = [dot for dot in made_of(web) if dot in layer]
    leads = layer_leads(web, layer)
    found = {}
    for dot in outside_of(web, layer):
        number, chosen = lessened(leads, row_of_lot(web, (dot,)), 0)
        if number == 0:
            found[dot] = tuple(made[place] for place in places_of(chosen))
    return found


def bar_of(web, layer, dot):
    """A lot that shows that dot can't be put to the layer: it has dot, and the layer's made dots are even into it."""
    leads = layer_leads(web, layer)
    number, _ = lessened(leads, row_of_lot(web, (dot,)), 0)
    return tuple(web[0][place] for place in places_of(bar_against(leads, number)))


def growth_of(web):
    """A list of what is put to each layer, the outs being the first one, until nothing can be put to one."""
    layer = list(web[3])
    growth = []
    more = put_to(web, layer)
    while more:
        growth.append(more)
        layer.extend(list(more))
        more = put_to(web, layer)
    return growth


def last_layer(web):
    """The dots to which no other dot can be put."""
    return [*web[3], *[dot for more in growth_of(web) for dot in more]]


def has_flow(web):
    """True if the web has a flow."""
    return len(last_layer(web)) == len(web[0])


def shut_of(web):
    """Shut lots of the web, None if it has a flow."""
    layer = last_layer(web)
    lot = outside_of(web, layer)
    if lot == ():
        return None
    return (lot, tuple((dot, bar_of(web, layer, dot)) for dot in lot))


def lets_shut(web, thing):
    """How many dots the lot of the web's shut lots has."""
    if not is_tuple_of(2, thing):
        raise InvalidPaper("shape", -1)
    lot, pairs = thing
    if not is_lot_of(looked_of(web), lot) or lot == ():
        raise InvalidPaper("lot", -1)
    if not are_rows_of_dots(2, lot, pairs):
        raise InvalidPaper("pairs", -1)
    made = [dot for dot in made_of(web) if dot not in lot]
    for k, (dot, bar) in enumerate(pairs):
        if not (is_lot_of(lot, bar) and dot in bar):
            raise InvalidPaper("bar", k)
        odd = odd_lot(web, bar)
        if any(other in odd for other in made):
            raise InvalidPaper("even", k)
    return len(lot)


def lets_paper(web, thing):
    """The first value of a paper of the web."""
    if is_tuple_of(2, thing) and thing[0] == "flow":
        lets_flow(web, thing[1])
    elif is_tuple_of(2, thing) and thing[0] == "telling":
        lets_telling(web, thing[1])
    elif is_tuple_of(3, thing) and thing[0] == "shut":
        lets_shut(web, thing[1:])
    else:
        raise InvalidPaper("shape", -1)
    return thing[0]
