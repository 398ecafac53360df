"""Other ways to reckon what the package reckons: by fractions, by going through all cases, by a general reader."""

import functools
import itertools
from fractions import Fraction

ROOT_PARTS = (0, 1, 0, -1)


def product(one, other):
    """The product of two rows of four parts, w to the fourth being -1."""
    found = [0, 0, 0, 0]
    for (j, a), (k, b) in itertools.product(enumerate(one), enumerate(other)):
        found[(j + k) % 4] += a * b if j + k < 4 else -a * b
    return tuple(found)


def total(rows):
    """The sum of rows of four parts."""
    return tuple(sum(parts) for parts in zip((0, 0, 0, 0), *rows))


@functools.cache
def root_power(many):
    """r to the many, an integer of either sign."""
    found = (Fraction(1), Fraction(0), Fraction(0), Fraction(0))
    factor = ROOT_PARTS if many > 0 else tuple(Fraction(part, 2) for part in ROOT_PARTS)
    for _ in range(abs(many)):
        found = product(found, factor)
    return found


def unit_parts(turn):
    """w to the turn."""
    return unit_power(turn % 8)


@functools.cache
def unit_power(turn):
    found = (1, 0, 0, 0)
    for _ in range(turn):
        found = product(found, (0, 1, 0, 0))
    return found


def mirror_parts(parts):
    """The row of parts with w to the seventh in the place of w."""
    return total(
        [tuple(part * factor for factor in unit_parts(7 * k)) for k, part in enumerate(parts)]
    )


def worth(exact, power):
    """What exact over r to the power stands for."""
    return product(exact, root_power(-power))


def worths(table):
    """What the entries of a table stand for, row by row."""
    over = root_power(-table[2])
    return [[product(exact, over) for exact in row] for row in table[3]]


def chained_worths(first, second, middle, ins):
    """The worths of first, then second."""
    return [
        [total([product(row[m], first[m][x]) for m in range(middle)]) for x in range(ins)] for row in second
    ]


def is_times_root(exact):
    """True if exact is r times an exact value: then r times it is 2 times one."""
    return all(part % 2 == 0 for part in product(exact, ROOT_PARTS))


def is_in_one_form(table):
    """True if the power of a table is a number, and as low as it must be."""
    _, _, power, rows = table
    if power == 0:
        return True
    return power > 0 and not all(is_times_root(exact) for row in rows for exact in row)


def all_lots(dots):
    """All lots of some of the dots."""
    for many in range(len(dots) + 1):
        yield from itertools.combinations(dots, many)


def sums_by_lots(plan):
    """The sums of a plan, as rows of parts, told entry by entry."""
    (dots, ties, ins, outs), angles = plan
    rows = []
    for y in range(2 ** len(outs)):
        row = []
        for x in range(2 ** len(ins)):
            found = []
            for lot in all_lots(dots):
                keeps_ins = all((dot in lot) == bool(x >> k & 1) for k, dot in enumerate(ins))
                keeps_outs = all((dot in lot) == bool(y >> k & 1) for k, dot in enumerate(outs))
                if keeps_ins and keeps_outs:
                    within = sum(one in lot and other in lot for one, other in ties)
                    turn = 4 * within - sum(angles[dots.index(dot)] for dot in lot)
                    found.append(unit_parts(turn))
            row.append(total(found))
        rows.append(row)
    return rows


class Recogniser:
    """Tells which rows of signs begin something of a grammar: rules are pairs of a name and a row of parts.

    A part that is a name of rules stands for each of their rows, any other part is asked whether a sign fits it.
    """

    def __init__(self, rules, start, fits):
        self.rules = {}
        for name, parts in rules:
            self.rules.setdefault(name, []).append(tuple(parts))
        self.start = start
        self.fits = fits

    def closed(self, states, items):
        """The items with all that follow from them at the last place."""
        states.append({})
        here = len(states) - 1
        states[here] = dict.fromkeys(items)
        has_grown = True
        while has_grown:
            has_grown = False
            for name, parts, at, origin in list(states[here]):
                more = []
                if at == len(parts):
                    for item in list(states[origin]):
                        if item[2] < len(item[1]) and item[1][item[2]] == name:
                            more.append((item[0], item[1], item[2] + 1, item[3]))
                elif parts[at] in self.rules:
                    more = [(parts[at], row, 0, here) for row in self.rules[parts[at]]]
                for item in more:
                    if item not in states[here]:
                        states[here][item] = None
                        has_grown = True

    def first_bad(self, signs):
        """The place of the first sign that nothing has behind the same signs, None if there is none."""
        states = []
        self.closed(states, [(self.start, row, 0, 0) for row in self.rules[self.start]])
        for place, sign in enumerate(signs):
            found = []
            for name, parts, at, origin in states[-1]:
                if at < len(parts) and parts[at] not in self.rules and self.fits(parts[at], sign):
                    found.append((name, parts, at + 1, origin))
            if not found:
                return place
            self.closed(states, found)
        return None
