"""Halves rules: two tied inner dots of angle 0 or 4 go."""

from lookundone.errors import need
from lookundone.plankinds import angles_by_dot, plan_with
from lookundone.webchanges import retied
from lookundone.webkinds import inner_of, is_dot_of, near_of


def halves_pairs(plan):
    """All pairs of dots with which a halves rule fits, ascending."""
    web = plan[0]
    angles = angles_by_dot(plan)
    halves = [dot for dot in inner_of(web) if angles[dot] in (0, 4)]
    return tuple((one, other) for one, other in web[1] if one in halves and other in halves)


def halves_done(plan, one, other):
    """The pair of the plan behind the rule and the rule's turn."""
    pairs = halves_pairs(plan)
    need(is_dot_of([pair[0] for pair in pairs], one), "one")
    need(is_dot_of([pair[1] for pair in pairs if pair[0] == one], other), "other")
    web = plan[0]
    angles = angles_by_dot(plan)
    by_one = [dot for dot in near_of(web, one) if dot != other]
    by_other = [dot for dot in near_of(web, other) if dot != one]
    both = [dot for dot in by_one if dot in by_other]
    more = [*both]
    if angles[other] == 4:
        more.extend(by_one)
    if angles[one] == 4:
        more.extend(by_other)
    turn = 4 if angles[one] == 4 and angles[other] == 4 else 0
    for dot in more:
        angles[dot] += 4
    return (plan_with(retied(web, (one, other), pairs_of_kinds(by_one, by_other, both)), angles), turn)


def pairs_of_kinds(by_one, by_other, both):
    """Each two dots of unlike kinds: tied to the one alone, to the other alone, to both."""
    one_alone = [dot for dot in by_one if dot not in both]
    other_alone = [dot for dot in by_other if dot not in both]
    pairs = [(dot, far) for dot in one_alone for far in other_alone]
    pairs.extend([(dot, far) for dot in one_alone for far in both])
    pairs.extend([(dot, far) for dot in other_alone for far in both])
    return pairs
