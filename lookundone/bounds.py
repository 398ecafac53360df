"""How many dots a short plan has at most."""

from lookundone.plankinds import odd_angles
from lookundone.webkinds import inner_of


def odd_inner(plan):
    """The lot of the inner dots with odd angles."""
    inners = inner_of(plan[0])
    return tuple(dot for dot in odd_angles(plan) if dot in inners)


def most_left(plan):
    """Twice the number of odd inner dots, the number of ins, and twice that of outs that are no ins."""
    _, _, ins, outs = plan[0]
    return 2 * len(odd_inner(plan)) + len(ins) + 2 * len([out for out in outs if out not in ins])
