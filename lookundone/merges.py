"""Merge rules: an inner dot of angle 0 or 4 goes with one of its two neighbours, which becomes one with the other."""

from lookundone.errors import need
from lookundone.plankinds import angles_by_dot, plan_with
from lookundone.webchanges import retied
from lookundone.webkinds import inner_of, is_dot_of, near_of


def merge_triples(plan):
    """All triples (dot, inner, other) with which a merge rule fits, ascending."""
    web = plan[0]
    angles = angles_by_dot(plan)
    inners = inner_of(web)
    triples = []
    for dot in inners:
        near = near_of(web, dot)
        if angles[dot] in (0, 4) and len(near) == 2:
            low, high = near
            if low in inners:
                triples.append((dot, low, high))
            if high in inners:
                triples.append((dot, high, low))
    return tuple(triples)


def merge_done(plan, dot, inner, other):
    """The pair of the plan behind the rule and the rule's turn."""
    triples = merge_triples(plan)
    need(is_dot_of([triple[0] for triple in triples], dot), "dot")
    need(is_dot_of([triple[1] for triple in triples if triple[0] == dot], inner), "inner")
    need(is_dot_of([triple[2] for triple in triples if triple[:2] == (dot, inner)], other), "other")
    web = plan[0]
    angles = angles_by_dot(plan)
    near = near_of(web, inner)
    rest = [far for far in near if far not in (dot, other)]
    if angles[dot] == 0:
        turn = 0
        angles[other] += angles[inner] + (4 if other in near else 0)
    else:
        turn = -angles[inner] % 8
        angles[other] += turn
        for far in rest:
            angles[far] += 4
    pairs = [(far, other) for far in rest]
    return (plan_with(retied(web, (dot, inner), pairs), angles), turn)
