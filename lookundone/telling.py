"""All telling lots of a web, and what kind of web it is."""

from lookundone.oddlots import near_rows, row_of_lot
from lookundone.shutlots import has_flow
from lookundone.tellinglots import is_idle
from lookundone.webkinds import looked_of, made_of


def telling_lots(web):
    """All telling lots of the web, as Python sorts."""
    near = near_rows(web)
    made_row = row_of_lot(web, made_of(web))
    # Each lot of looked dots, with its row of bits and that of its odd lot.
    lots = [((), 0, 0)]
    for dot in looked_of(web):
        dot_row = row_of_lot(web, (dot,))
        lots = lots + [((*lot, dot), row | dot_row, odd_row ^ near[dot]) for lot, row, odd_row in lots]
    return tuple(sorted([lot for lot, row, odd_row in lots if lot and made_row & ~row & odd_row == 0]))


def kind_of(web):
    """Whether the web has a flow, or which telling lots it has."""
    if has_flow(web):
        return "flow"
    lots = telling_lots(web)
    if not lots:
        return "fair"
    return "idle" if all(is_idle(web, lot) for lot in lots) else "telling"
