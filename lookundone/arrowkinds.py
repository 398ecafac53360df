"""Arrows between dots: which values are arrows, their dots, and where they lead."""

from lookundone.kinds import is_ascending, is_dot, is_tuple_of


def is_arrow(thing):
    """True if thing is a pair of dots, which may be the same."""
    return is_tuple_of(2, thing) and is_dot(thing[0]) and is_dot(thing[1])


def is_arrows(thing):
    """True if thing is arrows."""
    return isinstance(thing, tuple) and all(is_arrow(part) for part in thing) and is_ascending(thing)


def is_arrows_of(dots, thing):
    """True if thing is arrows between some of the dots."""
    return is_arrows(thing) and all(one in dots and other in dots for one, other in thing)


def dots_in(arrows):
    """The lot of all dots of the arrows."""
    return tuple(sorted({dot: True for arrow in arrows for dot in arrow}))


def arrows_back(arrows):
    """The arrows, each the other way round."""
    return tuple(sorted([(other, one) for one, other in arrows]))


def dots_ahead(dots, arrows):
    """A dict with the dots from which an arrow leads to each of the dots."""
    ahead = {dot: [] for dot in dots}
    for one, other in arrows:
        ahead[other].append(one)
    return ahead


def dots_behind(dots, arrows):
    """A dict with the dots to which an arrow leads from each of the dots."""
    return dots_ahead(dots, arrows_back(arrows))
