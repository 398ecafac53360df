"""The layers of a web, and flows with the fewest rounds."""

from lookundone.settling import flow_of
from lookundone.shutlots import growth_of


def layers_of(web):
    """A tuple of lots: the outs, then ever more dots, as many as can be put to the ones ahead."""
    layers = [tuple(sorted(web[3]))]
    for more in growth_of(web):
        layers.append(tuple(sorted([*layers[-1], *more])))
    return tuple(layers)


def fewest_rounds(web):
    """The least number of rounds over the arrows of all flows of the web."""
    flow_of(web)
    return len(layers_of(web)) - 1


def fewest_flow(web):
    """A flow of the web with the fewest rounds."""
    # The flow of settle is made layer by layer, so that no flow has fewer rounds.
    return flow_of(web)
