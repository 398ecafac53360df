"""Webs: which values are webs, how they are made, and which of their dots are what."""

from lookundone.errors import need
from lookundone.kinds import is_dots, is_dots_of, is_integer, is_lot, is_tuple_of


def web_fault(thing):
    """The pair (word, at) that tells why thing is no web, None if it is one."""
    if not is_tuple_of(4, thing):
        return "shape", -1
    dots, ties, ins, outs = thing
    if not is_lot(dots):
        return "dots", -1
    if not isinstance(ties, tuple):
        return "ties", -1
    for k, tie in enumerate(ties):
        if not (is_two_of(dots, tie) and tie[0] < tie[1]):
            return "tie", k
        if k > 0 and tie <= ties[k - 1]:
            return "sequence", k
    if not is_dots_of(dots, ins):
        return "ins", -1
    if not is_dots_of(dots, outs):
        return "outs", -1
    return None


def is_web(thing):
    """True if thing is a web."""
    return web_fault(thing) is None


def is_dot_of(dots, thing):
    """True if thing is one of the dots."""
    return is_integer(thing) and thing in dots


def is_two_of(dots, thing):
    """True if thing is a pair of two different ones of the dots."""
    return is_tuple_of(2, thing) and is_dot_of(dots, thing[0]) and is_dot_of(dots, thing[1]) and thing[0] != thing[1]


def web_of(dots, ties, ins, outs):
    """The web of these parts, which may stand in any sequence."""
    need(is_dots(dots), "dots")
    need(isinstance(ties, tuple) and all(is_two_of(dots, tie) for tie in ties), "ties")
    need(is_dots_of(dots, ins), "ins")
    need(is_dots_of(dots, outs), "outs")
    return (tuple(sorted(dots)), odd_ties(ties), ins, outs)


def tie_of(one, other):
    """The tie of two dots."""
    return (one, other) if one < other else (other, one)


def odd_ties(pairs):
    """The ties that stand an odd number of times among the pairs, whose ends may be in any sequence."""
    is_there = {}
    for one, other in pairs:
        tie = tie_of(one, other)
        is_there[tie] = not is_there.get(tie, False)
    return tuple(sorted([tie for tie in is_there if is_there[tie]]))


def looked_of(web):
    """The lot of the dots that are no outs."""
    dots, _, _, outs = web
    return tuple(dot for dot in dots if dot not in outs)


def made_of(web):
    """The lot of the dots that are no ins."""
    dots, _, ins, _ = web
    return tuple(dot for dot in dots if dot not in ins)


def inner_of(web):
    """The lot of the dots that are neither ins nor outs."""
    dots, _, ins, outs = web
    return tuple(dot for dot in dots if dot not in ins and dot not in outs)


def near_of(web, dot):
    """The lot of the dots tied to dot."""
    need(is_dot_of(web[0], dot), "dot")
    # The ties are ascending, so the dots found are, too.
    return tuple(other if dot == one else one for one, other in web[1] if dot in (one, other))


def is_even(web):
    """True if the web has as many ins as outs."""
    return len(web[2]) == len(web[3])
