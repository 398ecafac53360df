"""Webs with a tie, a dot, ins, outs or numbers other than they were."""

from lookundone.errors import need
from lookundone.kinds import is_dot, is_dots, is_lot_of
from lookundone.webkinds import inner_of, is_dot_of, made_of, odd_ties, web_of


def toggled(web, one, other):
    """The web with the tie of one and other toggled."""
    dots, ties, ins, outs = web
    need(is_dot_of(dots, one), "one")
    need(is_dot_of(dots, other) and other != one, "other")
    return web_of(dots, (*ties, (one, other)), ins, outs)


def with_dot(web, dot):
    """The web with one more dot, which has no ties."""
    dots, ties, ins, outs = web
    need(is_dot(dot) and dot not in dots, "dot")
    return web_of((*dots, dot), ties, ins, outs)


def without_dot(web, dot):
    """The web without an inner dot and its ties."""
    dots, ties, ins, outs = web
    need(is_dot_of(inner_of(web), dot), "dot")
    left = tuple(other for other in dots if other != dot)
    left_ties = tuple(tie for tie in ties if dot not in tie)
    return (left, left_ties, ins, outs)


def turned_web(web):
    """The web with ins and outs exchanged."""
    dots, ties, ins, outs = web
    return (dots, ties, outs, ins)


def put_in(web, lot):
    """The web with made dots put behind its ins."""
    dots, ties, ins, outs = web
    need(is_lot_of(made_of(web), lot), "lot")
    return (dots, ties, ins + lot, outs)


def renamed_web(web, names):
    """The web with names[k] for the dot at place k of its dots."""
    dots, ties, ins, outs = web
    need(is_dots(names) and len(names) == len(dots), "names")
    new_names = {dot: new for dot, new in zip(dots, names)}
    new_ties = tuple((new_names[one], new_names[other]) for one, other in ties)
    new_ins = tuple(new_names[dot] for dot in ins)
    new_outs = tuple(new_names[dot] for dot in outs)
    return web_of(names, new_ties, new_ins, new_outs)


def retied(web, gone, pairs):
    """The web without the dots of gone and their ties, with the ties of these pairs toggled; ins and outs stay."""
    dots, ties, ins, outs = web
    left = tuple(dot for dot in dots if dot not in gone)
    left_ties = [(one, other) for one, other in ties if one not in gone and other not in gone]
    return (left, odd_ties([*left_ties, *pairs]), ins, outs)
