"""Plans: which values are plans, and their angles."""

from lookundone.errors import need
from lookundone.kinds import is_lot_of, is_tuple_of, is_turn, is_turns
from lookundone.webkinds import is_dot_of, is_web


def is_plan(thing):
    """True if thing is a plan."""
    return is_tuple_of(2, thing) and is_web(thing[0]) and is_turns(len(thing[0][0]), thing[1])


def angles_by_dot(plan):
    """A dict with the angle of each dot."""
    web, angles = plan
    return {dot: angle for dot, angle in zip(web[0], angles)}


def plan_with(web, angles):
    """The plan of the web, with what a dict of the dots tells, by 8, as angles."""
    return (web, tuple(angles[dot] % 8 for dot in web[0]))


def angle_of(plan, dot):
    """The angle of dot."""
    need(is_dot_of(plan[0][0], dot), "dot")
    return angles_by_dot(plan)[dot]


def with_angle(plan, dot, turn):
    """The plan with turn as the angle of dot."""
    need(is_dot_of(plan[0][0], dot), "dot")
    need(is_turn(turn), "turn")
    angles = angles_by_dot(plan)
    angles[dot] = turn
    return plan_with(plan[0], angles)


def more_angle(plan, lot, turn):
    """The plan with turn added to the angle of each dot of the lot."""
    need(is_lot_of(plan[0][0], lot), "lot")
    need(is_turn(turn), "turn")
    angles = angles_by_dot(plan)
    for dot in lot:
        angles[dot] += turn
    return plan_with(plan[0], angles)


def odd_angles(plan):
    """The lot of the dots with odd angles."""
    web, angles = plan
    return tuple(dot for dot, angle in zip(web[0], angles) if angle % 2)
