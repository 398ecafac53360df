"""The rules that fit a plan, and rules done."""

from lookundone.errors import need
from lookundone.halves import halves_done, halves_pairs
from lookundone.kinds import is_integer
from lookundone.merges import merge_done, merge_triples
from lookundone.quarters import quarter_done, quarter_dots


def rules_of(plan):
    """All rules that fit: quarter rules, halves rules, merge rules, those of one word ascending."""
    rules = [("quarter", dot) for dot in quarter_dots(plan)]
    rules.extend([("halves", *pair) for pair in halves_pairs(plan)])
    rules.extend([("merge", *triple) for triple in merge_triples(plan)])
    return tuple(rules)


def is_rule_of(plan, thing):
    """True if thing, any value, is a rule that fits the plan."""
    # Rules compare equal where True stands for 1.
    return isinstance(thing, tuple) and all(is_integer(dot) for dot in thing[1:]) and thing in rules_of(plan)


def rule_done(plan, rule):
    """The pair of the plan behind the rule and the rule's turn."""
    need(is_rule_of(plan, rule), "rule")
    word, dot, *others = rule
    if word == "quarter":
        return quarter_done(plan, dot)
    if word == "halves":
        return halves_done(plan, dot, others[0])
    return merge_done(plan, dot, others[0], others[1])
