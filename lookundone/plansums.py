"""The sums and the map of a plan, by going through all lots."""

from lookundone.exacts import NOUGHT, exact_sum, unit
from lookundone.scaling import scaled
from lookundone.tables import one_form
from lookundone.webkinds import made_of


def sums_of(plan):
    """The sums of the plan."""
    (dots, ties, ins, outs), angles = plan
    rows = [[NOUGHT] * (1 << len(ins)) for _ in range(1 << len(outs))]
    bits = {dot: 1 << place for place, dot in enumerate(dots)}
    tie_bits = [bits[one] | bits[other] for one, other in ties]
    for chosen in range(1 << len(dots)):
        # Each lot has its own bits at the ins and outs, so it belongs to one entry alone.
        y = row_number(outs, bits, chosen)
        x = row_number(ins, bits, chosen)
        rows[y][x] = exact_sum(rows[y][x], unit(turn_of_lot(tie_bits, angles, chosen)))
    return one_form(len(outs), len(ins), 0, rows)


def row_number(ends, bits, chosen):
    """The number of the row of bits that the chosen dots make at ins or outs."""
    return sum(1 << place for place, dot in enumerate(ends) if chosen & bits[dot])


def turn_of_lot(tie_bits, angles, chosen):
    """The turn of what the chosen dots add to the sums."""
    within = len([both for both in tie_bits if chosen & both == both])
    return (4 * within - sum(angle for place, angle in enumerate(angles) if chosen >> place & 1)) % 8


def map_of(plan):
    """The sums over r to the number of made dots."""
    return scaled(sums_of(plan), -len(made_of(plan[0])))
