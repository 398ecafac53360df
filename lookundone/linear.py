"""Dots put in a row by arrows, and the dots that come behind a dot."""

from lookundone.arrowkinds import dots_ahead, dots_behind, dots_in, is_arrows_of
from lookundone.errors import need
from lookundone.kinds import is_dot


def linear_order(dots, arrows):
    """All the dots, each time the least that is free, None if there is a ring; nothing is checked."""
    behind = dots_behind(dots, arrows)
    waits = {dot: len(ones) for dot, ones in dots_ahead(dots, arrows).items()}
    free = [dot for dot in dots if waits[dot] == 0]
    order = []
    while free:
        least = min(free)
        free.remove(least)
        order.append(least)
        for other in behind[least]:
            waits[other] -= 1
            if waits[other] == 0:
                free.append(other)
    return tuple(order) if len(order) == len(dots) else None


def linear_of(dots, arrows):
    """All the dots, each time the least not yet taken to which no arrow leads from one not yet taken."""
    need(is_arrows_of(dots, arrows), "arrows")
    return linear_order(dots, arrows)


def keeps_arrows(order, arrows):
    """True if the first dot of each arrow stands ahead of the second one in the order."""
    need(is_arrows_of(order, arrows), "arrows")
    place_of = {dot: place for place, dot in enumerate(order)}
    return all(place_of[one] < place_of[other] for one, other in arrows)


def linears_of(dots, arrows):
    """All tuples of all the dots that keep the arrows, ascending."""
    need(is_arrows_of(dots, arrows), "arrows")
    ahead = dots_ahead(dots, arrows)
    orders = [()]
    for _ in dots:
        orders = [
            (*order, dot)
            for order in orders
            for dot in dots
            if dot not in order and all(other in order for other in ahead[dot])
        ]
    return tuple(orders)


def come_from(arrows, dot):
    """The lot of the dots to which arrows lead from dot, over others or not."""
    need(is_dot(dot), "dot")
    behind = dots_behind(dots_in(arrows), arrows)
    is_met = {}
    level = [dot]
    while level:
        found = [other for one in level for other in behind.get(one, [])]
        level = []
        for other in found:
            if other not in is_met:
                is_met[other] = True
                level.append(other)
    return tuple(sorted(is_met))
