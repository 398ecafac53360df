"""Telling lots of a web: which lots are telling, and what they tell."""

from lookundone.errors import InvalidPaper, need
from lookundone.kinds import is_lot_of
from lookundone.oddlots import odd_lot, ties_within
from lookundone.webkinds import looked_of, made_of


def telling_fault(web, thing):
    """The pair (word, at) that tells why thing is no telling lot of the web, None if it is one."""
    if not is_lot_of(looked_of(web), thing) or thing == ():
        return "lot", -1
    odd = odd_lot(web, thing)
    for dot in made_of(web):
        if dot not in thing and dot in odd:
            return "even", dot
    return None


def lets_telling(web, thing):
    """How many dots the telling lot of the web has."""
    fault = telling_fault(web, thing)
    if fault is not None:
        word, at = fault
        raise InvalidPaper(word, at)
    return len(thing)


def is_idle(web, lot):
    """True if neither the telling lot nor its odd lot has an in."""
    need(telling_fault(web, lot) is None, "lot")
    return not any(dot in lot or dot in odd_lot(web, lot) for dot in web[2])


def told_angles(web, lot):
    """Pairs (dot, turn) for the dots of the telling lot: the angles at which it tells something."""
    need(telling_fault(web, lot) is None, "lot")
    odd = odd_lot(web, lot)
    return tuple((dot, 2 if dot in odd else 0) for dot in lot)


def told_sign(web, lot):
    """The pair (ins, bit) that tells what the looks at a telling lot without ins show."""
    need(telling_fault(web, lot) is None and not any(dot in lot for dot in web[2]), "lot")
    odd = odd_lot(web, lot)
    half = len([dot for dot in lot if dot in odd]) // 2
    return (tuple(dot for dot in odd if dot in web[2]), (ties_within(web, lot) + half) % 2)
