"""Quarter rules: an inner dot of angle 2 or 6 goes."""

from lookundone.errors import need
from lookundone.plankinds import angles_by_dot, plan_with
from lookundone.webchanges import retied
from lookundone.webkinds import inner_of, is_dot_of, near_of


def quarter_dots(plan):
    """The lot of the dots with which a quarter rule fits."""
    angles = angles_by_dot(plan)
    return tuple(dot for dot in inner_of(plan[0]) if angles[dot] in (2, 6))


def quarter_done(plan, dot):
    """The pair of the plan behind the rule and the rule's turn."""
    need(is_dot_of(quarter_dots(plan), dot), "dot")
    web = plan[0]
    angles = angles_by_dot(plan)
    # A neighbour gets minus the angle of dot.
    more = -angles[dot]
    near = near_of(web, dot)
    for other in near:
        angles[other] += more
    pairs = [(one, other) for one in near for other in near if one < other]
    return (plan_with(retied(web, (dot,), pairs), angles), 7 if more == -2 else 1)
