"""Papers, floors and what allows orders, told by plain words."""

from tests.flow_oracles import odd_plainly, parts_of
from tests.program_oracles import is_lot_plainly, is_whole


def is_lot_among(dots, thing):
    return is_lot_plainly(thing) and set(thing) <= set(dots)


def rows_fit(wide, dots, thing):
    """True if thing is a tuple of tuples so wide, one for each dot, with the dot first."""
    if type(thing) is not tuple or len(thing) != len(dots):
        return False
    return all(
        type(row) is tuple and len(row) == wide and is_whole(row[0]) and row[0] == dot for dot, row in zip(dots, thing)
    )


def shut_fault_plainly(web, thing):
    """Why thing is no shut lots of the web, as (word, at), None if it is some."""
    looked, made = parts_of(web)
    if type(thing) is not tuple or len(thing) != 2:
        return "shape", -1
    lot, pairs = thing
    if not is_lot_among(looked, lot) or not lot:
        return "lot", -1
    if not rows_fit(2, lot, pairs):
        return "pairs", -1
    for k, (dot, bar) in enumerate(pairs):
        if not is_lot_among(lot, bar) or dot not in bar:
            return "bar", k
        if odd_plainly(web, bar) & (set(made) - set(lot)):
            return "even", k
    return None


def floors_fault_plainly(web, thing):
    """Why thing is no floors of the web, as (word, at), None if it is some."""
    looked, made = parts_of(web)
    if not rows_fit(3, looked, thing):
        return "shape", -1
    for k, (_, floor, _) in enumerate(thing):
        if not is_whole(floor) or floor < 1:
            return "floor", k
    for k, (dot, floor, bar) in enumerate(thing):
        if floor == 1:
            if type(bar) is not tuple or bar:
                return "bar", k
            continue
        if not is_lot_among(looked, bar) or dot not in bar:
            return "bar", k
        low = [other for other in made if other in web[3]]
        low += [other for other, its_floor, _ in thing if other in made and its_floor <= floor - 2]
        if odd_plainly(web, bar) & set(low):
            return "even", k
    return None


def allowed_fault_plainly(web, order, thing):
    """Why thing does not tell whether the order is let, as (word, at), None if it does."""
    _, made = parts_of(web)
    if type(thing) is not tuple or not thing or type(thing[0]) is not str or thing[0] not in ("let", "barred"):
        return "shape", -1
    if len(thing) != {"let": 2, "barred": 3}[thing[0]]:
        return "shape", -1
    if thing[0] == "let":
        if type(thing[1]) is not tuple or len(thing[1]) != len(order):
            return "shape", -1
        for k, lot in enumerate(thing[1]):
            seen = set(order[:k + 1])
            if not is_lot_among(set(made) - seen, lot) or odd_plainly(web, lot) & seen != {order[k]}:
                return "lot", k
        return None
    _, place, bar = thing
    if not is_whole(place) or not 0 <= place < len(order):
        return "place", -1
    if not is_lot_among(order[:place + 1], bar) or order[place] not in bar:
        return "bar", -1
    for dot in made:
        if dot not in order[:place + 1] and dot in odd_plainly(web, bar):
            return "even", dot
    return None


def live_plainly(web, order, place):
    """The dots live at a place of an order."""
    ahead, so_far = order[:place], order[:place + 1]
    near = {dot: {end for tie in web[1] if dot in tie for end in tie if end != dot} for dot in web[0]}
    return [
        dot for dot in web[0]
        if dot not in ahead and (dot in web[2] or dot in so_far or near[dot] & set(so_far))
    ]


def account_plainly(plan, flow):
    """The account by the flow of a plan."""
    web, angles = plan
    looked, _ = parts_of(web)
    waits = tuple(tuple(one for one, lot in flow if dot in lot) for dot in looked)
    flips = tuple(tuple(one for one, lot in flow if out in lot) for out in web[3])
    signs = tuple(tuple(one for one, lot in flow if out in odd_plainly(web, lot)) for out in web[3])
    return web, angles, waits, flips, signs
