"""What is done to the outs of a table, and tables of some or all of its starts."""

from lookundone.errors import need
from lookundone.exacts import NOUGHT, exact_product, exact_sum, unit
from lookundone.kinds import is_bits, is_number_below, is_turns
from lookundone.tables import one_form


def number_of_bits(bits):
    """The number that tells a row of bits."""
    return sum(bit << place for place, bit in enumerate(bits))


def turn_at(y, signs, turns):
    """The turn that a row of outs gets by the signs and turns of those that have a 1 in y."""
    return sum(4 * sign + turn for place, (sign, turn) in enumerate(zip(signs, turns)) if y >> place & 1) % 8


def shifted(table, flips, signs, turns):
    """The table behind which outs are flipped, then signed, then turned."""
    outs, ins, power, rows = table
    need(is_bits(outs, flips), "flips")
    need(is_bits(outs, signs), "signs")
    need(is_turns(outs, turns), "turns")
    flip = number_of_bits(flips)
    new_rows = []
    for y in range(1 << outs):
        factor = unit(turn_at(y, signs, turns))
        new_rows.append([exact_product(factor, exact) for exact in rows[y ^ flip]])
    return one_form(outs, ins, power, new_rows)


def column_of(table, x):
    """The table without ins that comes of the start x."""
    outs, ins, power, rows = table
    need(is_number_below(1 << ins, x), "x")
    return one_form(outs, 0, power, [[row[x]] for row in rows])


def row_sum(row):
    """The sum of all values in the row."""
    total = NOUGHT
    for exact in row:
        total = exact_sum(total, exact)
    return total


def on_plus(table):
    """The table without ins that comes of all starts at once, each over r to the ins."""
    outs, ins, power, rows = table
    return one_form(outs, 0, power + ins, [[row_sum(row)] for row in rows])
