"""Plans cut short by rules, and the checker of rules done one after the other."""

from lookundone.errors import InvalidPaper
from lookundone.rules import is_rule_of, rule_done, rules_of


def shortened(plan):
    """The triple of the plan to which no rule fits any more, the rules done, and the sum of their turns."""
    done = []
    total = 0
    rules = rules_of(plan)
    while rules:
        plan, turn = rule_done(plan, rules[0])
        done.append(rules[0])
        total += turn
        rules = rules_of(plan)
    return (plan, tuple(done), total % 8)


def lets_rules(plan, thing):
    """The pair of the plan behind all rules of thing and the sum of their turns."""
    if not isinstance(thing, tuple):
        raise InvalidPaper("shape", -1)
    total = 0
    for k, rule in enumerate(thing):
        if not is_rule_of(plan, rule):
            raise InvalidPaper("rule", k)
        plan, turn = rule_done(plan, rule)
        total += turn
    return (plan, total % 8)
