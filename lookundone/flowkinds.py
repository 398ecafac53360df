"""Flows of a web: which values are flows, their arrows and rounds."""

from lookundone.bitrows import sum_of_rows
from lookundone.errors import InvalidPaper, need
from lookundone.heights import height_by_dot
from lookundone.kinds import are_rows_of_dots, is_lot_of
from lookundone.linear import linear_order
from lookundone.oddlots import near_rows, row_of_lot
from lookundone.webkinds import looked_of, made_of


def flow_fault(web, thing):
    """The pair (word, at) that tells why thing is no flow of the web, None if it is one."""
    looked = looked_of(web)
    if not are_rows_of_dots(2, looked, thing):
        return "shape", -1
    made = made_of(web)
    near = near_rows(web)
    looked_row = row_of_lot(web, looked)
    for k, (dot, lot) in enumerate(thing):
        if not is_lot_of(made, lot):
            return "lot", k
        if sum_of_rows([near[other] for other in lot]) & looked_row != row_of_lot(web, (dot,)):
            return "odd", k
    if linear_order(looked, flow_arrows(looked, thing)) is None:
        return "ring", -1
    return None


def flow_arrows(looked, flow):
    """All pairs (one, other) with other a looked dot in the lot of one, ascending; nothing is checked."""
    return tuple((one, other) for one, lot in flow for other in lot if other in looked)


def is_flow(web, thing):
    """True if thing is a flow of the web."""
    return flow_fault(web, thing) is None


def lets_flow(web, thing):
    """How many rounds the flow of the web has."""
    fault = flow_fault(web, thing)
    if fault is not None:
        word, at = fault
        raise InvalidPaper(word, at)
    return max([many for _, many in flow_rounds(web, thing)], default=0)


def arrows_of(web, flow):
    """The arrows of the flow, ascending."""
    need(is_flow(web, flow), "flow")
    return flow_arrows(looked_of(web), flow)


def flow_rounds(web, flow):
    """Pairs (dot, round) for all looked dots, ascending, by the arrows of the flow."""
    need(is_flow(web, flow), "flow")
    looked = looked_of(web)
    return tuple(sorted(height_by_dot(looked, flow_arrows(looked, flow)).items()))
