"""Made dots put to the ins, so that an even web with a flow comes."""

from lookundone.oddlots import near_rows, row_of_lot
from lookundone.settling import flow_of
from lookundone.shutlots import growth_of
from lookundone.solving import lessened, with_lead
from lookundone.webkinds import looked_of, made_of


def widened(web):
    """A lot of made dots that, put to the ins, makes the web even and leaves it a flow."""
    flow_of(web)
    looked_row = row_of_lot(web, looked_of(web))
    near = near_rows(web)
    leads = []
    lot = []
    # A dot whose neighbours are a sum of those of dots ahead can be spared: where it leads a look, they lead it, too.
    # They belong to layers at least as early as its own, so no look comes to wait for more rounds.
    for dot in made_by_layers(web):
        number, _ = lessened(leads, near[dot] & looked_row, 0)
        if number:
            leads = with_lead(leads, number, 0)
        else:
            lot.append(dot)
    return tuple(sorted(lot))


def made_by_layers(web):
    """The made dots, those of each layer ahead of those put to it."""
    made = made_of(web)
    sequence = [*web[3], *[dot for more in growth_of(web) for dot in more]]
    return [dot for dot in sequence if dot in made]
