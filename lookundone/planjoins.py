"""Plans one behind another, side by side, turned about, and with other numbers."""

from lookundone.errors import need
from lookundone.plankinds import angles_by_dot, is_plan, plan_with
from lookundone.webchanges import renamed_web, turned_web
from lookundone.webkinds import web_of


def new_numbers(first, second, known):
    """A dict with the number that each dot of second gets behind the dots of first; known has those of some."""
    behind = max(first, default=-1) + 1
    numbers = {dot: known[dot] for dot in known}
    for dot in second:
        if dot not in known:
            numbers[dot] = behind
            behind += 1
    return numbers


def joined_plan(first, second, numbers, ins, outs):
    """The plan with all dots and ties of first, and of second by its new numbers."""
    angles = angles_by_dot(first)
    for dot, angle in angles_by_dot(second).items():
        angles[numbers[dot]] = angles.get(numbers[dot], 0) + angle
    new_ties = tuple((numbers[one], numbers[other]) for one, other in second[0][1])
    web = web_of(tuple(angles), first[0][1] + new_ties, ins, outs)
    return plan_with(web, angles)


def chained_plans(first, second):
    """The plan of first, then second."""
    need(is_plan(second) and len(second[0][2]) == len(first[0][3]), "second")
    known = {dot: out for dot, out in zip(second[0][2], first[0][3])}
    numbers = new_numbers(first[0][0], second[0][0], known)
    return joined_plan(first, second, numbers, first[0][2], tuple(numbers[dot] for dot in second[0][3]))


def beside_plans(low, high):
    """The plan of both, high's ins and outs behind those of low."""
    need(is_plan(high), "high")
    numbers = new_numbers(low[0][0], high[0][0], {})
    ins = low[0][2] + tuple(numbers[dot] for dot in high[0][2])
    outs = low[0][3] + tuple(numbers[dot] for dot in high[0][3])
    return joined_plan(low, high, numbers, ins, outs)


def turned_plan(plan):
    """The plan turned about."""
    web, angles = plan
    return (turned_web(web), tuple(-angle % 8 for angle in angles))


def renamed_plan(plan, names):
    """The plan with names[k] for the dot at place k of its dots."""
    web, angles = plan
    new_web = renamed_web(web, names)
    return plan_with(new_web, {new: angle for new, angle in zip(names, angles)})
