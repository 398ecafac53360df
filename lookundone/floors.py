"""Floors of a web, which show that it can't do with fewer rounds."""

from lookundone.errors import InvalidPaper
from lookundone.kinds import are_rows_of_dots, is_lot_of, is_number
from lookundone.oddlots import odd_lot
from lookundone.settling import flow_of
from lookundone.shutlots import bar_of, growth_of
from lookundone.webkinds import looked_of, made_of


def floors_of(web):
    """Floors whose greatest floor is the fewest rounds of the web."""
    flow_of(web)
    growth = growth_of(web)
    triples = []
    for place, more in enumerate(growth):
        # What is put behind one layer could not be put to the layer ahead of this one.
        layer = [*web[3], *[dot for ones in growth[:max(0, place - 1)] for dot in ones]]
        for dot in more:
            triples.append((dot, place + 1, bar_of(web, layer, dot) if place > 0 else ()))
    return tuple(sorted(triples))


def lets_floors(web, thing):
    """The greatest of the web's floors, 0 without looked dots."""
    looked = looked_of(web)
    if not are_rows_of_dots(3, looked, thing):
        raise InvalidPaper("shape", -1)
    for k, (_, floor, _) in enumerate(thing):
        if not (is_number(floor) and floor > 0):
            raise InvalidPaper("floor", k)
    floors = {dot: floor for dot, floor, _ in thing}
    for k, (dot, floor, bar) in enumerate(thing):
        if not is_bar(looked, dot, floor, bar):
            raise InvalidPaper("bar", k)
        odd = odd_lot(web, bar)
        # An out has no floor; it is asked for each bar but ().
        if any(other in odd for other in made_of(web) if floors.get(other, 0) <= floor - 2):
            raise InvalidPaper("even", k)
    return max(floors.values(), default=0)


def is_bar(looked, dot, floor, thing):
    """True if thing is () for the floor 1, a lot of looked dots that has dot for another one."""
    if floor == 1:
        return thing == ()
    return is_lot_of(looked, thing) and dot in thing
