"""The layers of a web, which tell whether it has a flow."""

from lookundone.oddlots import near_rows, row_of_lot
from lookundone.solving import leads_of, lessened
from lookundone.webkinds import made_of


def layers_of(web):
    """A tuple of lots: the outs, then ever more dots, as many as can be put to the ones ahead."""
    layers = [tuple(sorted(web[3]))]
    more = put_to(web, layers[-1])
    while more:
        layers.append(tuple(sorted([*layers[-1], *more])))
        more = put_to(web, layers[-1])
    return tuple(layers)


def put_to(web, layer):
    """The dots that can be put to the layer."""
    outside = [dot for dot in web[0] if dot not in layer]
    outside_row = row_of_lot(web, outside)
    near = near_rows(web)
    leads = leads_of([near[dot] & outside_row for dot in made_of(web) if dot in layer])
    return [dot for dot in outside if lessened(leads, row_of_lot(web, (dot,)), 0)[0] == 0]


def has_flow(web):
    """True if the web has a flow."""
    return layers_of(web)[-1] == web[0]
