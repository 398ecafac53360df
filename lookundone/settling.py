"""A paper of a web: its flow, or what shows that it has none."""

from lookundone.bitrows import places_of
from lookundone.errors import NoFlow
from lookundone.flowkinds import flow_arrows
from lookundone.focusing import focused
from lookundone.kernels import kernel_of
from lookundone.oddlots import near_rows, row_of_lot
from lookundone.rings import shortest_ring
from lookundone.shutlots import growth_of, shut_of
from lookundone.solving import leads_of, lessened
from lookundone.webkinds import looked_of, made_of


def settle(web):
    """A paper of the web: a flow, otherwise a telling lot if it has at least as many ins as outs, else shut lots."""
    growth = growth_of(web)
    if sum([len(more) for more in growth]) == len(looked_of(web)):
        return ("flow", flow_by_growth(web, growth))
    if len(web[2]) >= len(web[3]):
        return ("telling", telling_lot_of(web))
    return ("shut", *shut_of(web))


def flow_of(web):
    """The flow of the paper that settle makes."""
    paper = settle(web)
    if paper[0] != "flow":
        raise NoFlow(paper)
    return paper[1]


def flow_by_growth(web, growth):
    """The flow by which the dots put to each layer are led by dots of this layer, so that its rounds are fewest."""
    lots = {dot: lot for more in reversed(growth) for dot, lot in more.items()}
    return focused(web, tuple(lots), tuple(lots.values()))


def telling_lot_of(web):
    """A telling lot of a web without a flow that has at least as many ins as outs."""
    looked = looked_of(web)
    made_row = row_of_lot(web, made_of(web))
    near = near_rows(web)
    places = kernel_of([near[dot] & made_row for dot in looked])
    if places is not None:
        return tuple(looked[place] for place in places)
    # As many looked dots as made ones, and no sum of neighbours is nought: each look can be led by just one lot of
    # made dots, and what bars a flow is a ring of these. A shortest ring has no arrows but its own, so each of its
    # dots leads just one dot of it: the dots that lead an odd number of its dots are a telling lot.
    lots = lone_lots(web)
    ring = shortest_ring(looked, flow_arrows(looked, tuple(lots.items())))
    return tuple(dot for dot in looked if len([other for other in ring if other in lots[dot]]) % 2)


def lone_lots(web):
    """A dict with the lot of made dots that leads each looked dot alone, there being just one for each."""
    looked = looked_of(web)
    made = made_of(web)
    looked_row = row_of_lot(web, looked)
    near = near_rows(web)
    leads = leads_of([near[dot] & looked_row for dot in made])
    lots = {}
    for dot in looked:
        _, chosen = lessened(leads, row_of_lot(web, (dot,)), 0)
        lots[dot] = tuple(made[place] for place in places_of(chosen))
    return lots
