"""Flows, telling lots and layers told by going through all lots."""

import itertools

from tests.oracles import all_lots


def parts_of(web):
    """The looked dots, and the made dots."""
    dots, _, ins, outs = web
    return [dot for dot in dots if dot not in outs], [dot for dot in dots if dot not in ins]


def odd_plainly(web, lot):
    """The dots tied to an odd number of dots of the lot."""
    ends = [end for tie in web[1] for end, other in (tie, tie[::-1]) if other in lot]
    return {dot for dot in web[0] if ends.count(dot) % 2}


def has_ring(looked, flow):
    """Whether the arrows of a flow, a dict, make a ring."""
    reached = {dot: set(flow[dot]) & set(looked) for dot in looked}
    for _ in looked:
        for dot in looked:
            for other in list(reached[dot]):
                reached[dot] |= reached[other]
    return any(dot in reached[dot] for dot in looked)


def all_flows(web):
    """All flows of a small web, by going through all lots for each looked dot."""
    looked, made = parts_of(web)
    choices = []
    for dot in looked:
        choices.append([lot for lot in all_lots(made) if odd_plainly(web, lot) & set(looked) == {dot}])
    for lots in itertools.product(*choices):
        flow = dict(zip(looked, lots))
        if not has_ring(looked, flow):
            yield tuple(flow.items())


def flow_fault_plainly(web, thing):
    """Why thing is no flow of the web, as (word, at), None if it is one."""
    looked, made = parts_of(web)
    if type(thing) is not tuple or len(thing) != len(looked):
        return "shape", -1
    for dot, pair in zip(looked, thing):
        if type(pair) is not tuple or len(pair) != 2 or type(pair[0]) is not int or pair[0] != dot:
            return "shape", -1
    for k, (dot, lot) in enumerate(thing):
        if type(lot) is not tuple or any(type(part) is not int for part in lot):
            return "lot", k
        if list(lot) != sorted(set(lot)) or not set(lot) <= set(made):
            return "lot", k
        if odd_plainly(web, lot) & set(looked) != {dot}:
            return "odd", k
    return ("ring", -1) if has_ring(looked, dict(thing)) else None


def rounds_plainly(web, flow):
    """The round of each looked dot by the arrows of a flow, a dict, reckoned from the first ones on."""
    looked, _ = parts_of(web)
    rounds = {}
    while len(rounds) < len(looked):
        for dot in looked:
            ahead = [other for other in looked if dot in flow[other]]
            if dot not in rounds and all(other in rounds for other in ahead):
                rounds[dot] = 1 + max([rounds[other] for other in ahead], default=0)
    return rounds


def telling_plainly(web):
    """All telling lots of a small web."""
    looked, made = parts_of(web)
    found = []
    for lot in all_lots(looked):
        odd = odd_plainly(web, lot)
        if lot and not any(dot in odd for dot in made if dot not in lot):
            found.append(lot)
    return sorted(found)


def layers_plainly(web):
    """The layers of a small web."""
    _, made = parts_of(web)
    layers = [set(web[3])]
    while True:
        layer = layers[-1]
        more = set()
        for lot in all_lots([dot for dot in made if dot in layer]):
            odd = odd_plainly(web, lot) - layer
            if len(odd) == 1:
                more |= odd
        if not more:
            return tuple(tuple(sorted(layer)) for layer in layers)
        layers.append(layer | more)
