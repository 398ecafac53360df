"""Tables in their one form: which values are tables, how they are made, what stands in them."""

from lookundone.errors import need
from lookundone.exacts import NOUGHT, ONE, by_root, by_roots, times_roots
from lookundone.kinds import is_exact, is_integer, is_number, is_number_below, is_tuple_of

GREATEST_WIDTH = 12
GREATEST_NOUGHT_WIDTH = 6
GREATEST_POWER = 60


def is_width_of(many, thing):
    """True if thing is a tuple of 2 to the many values; many is a number."""
    # The power is not reckoned where many is far beyond the length of any tuple.
    return isinstance(thing, tuple) and many < len(thing).bit_length() and len(thing) == 1 << many


def is_row(ins, thing):
    """True if thing is a tuple of 2 to the ins exact values."""
    return is_width_of(ins, thing) and all(is_exact(part) for part in thing)


def is_rows(outs, ins, thing):
    """True if thing is a tuple of 2 to the outs such tuples."""
    return is_width_of(outs, thing) and all(is_row(ins, row) for row in thing)


def rows_by_root(rows):
    """The rows whose values times r are those of rows, None if there are none."""
    lesser = []
    for row in rows:
        parts = []
        for exact in row:
            part = by_root(exact)
            if part is None:
                return None
            parts.append(part)
        lesser.append(tuple(parts))
    return lesser


def is_nought_rows(rows):
    """True if each value in the rows is nought."""
    return all(exact == NOUGHT for row in rows for exact in row)


def is_table(thing):
    """True if thing is a table in its one form."""
    if not is_tuple_of(4, thing):
        return False
    outs, ins, power, rows = thing
    if not (is_number(outs) and is_number(ins) and is_number(power) and is_rows(outs, ins, rows)):
        return False
    return power == 0 or rows_by_root(rows) is None


def one_form(outs, ins, power, rows):
    """The table whose entry at (y, x) is rows[y][x] over r to the power, any integer; nothing is checked."""
    if power > 0 and is_nought_rows(rows):
        power = 0
    while power > 0:
        lesser = rows_by_root(rows)
        if lesser is None:
            break
        rows = lesser
        power -= 1
    if power < 0:
        rows = [[times_roots(exact, -power) for exact in row] for row in rows]
        power = 0
    return (outs, ins, power, tuple(tuple(row) for row in rows))


def table_of(outs, ins, power, rows):
    """The table whose entry at (y, x) is rows[y][x] over r to the power."""
    need(is_number_below(GREATEST_WIDTH + 1, outs), "outs")
    need(is_number_below(GREATEST_WIDTH + 1, ins), "ins")
    need(is_integer(power) and -GREATEST_POWER <= power <= GREATEST_POWER, "power")
    need(is_rows(outs, ins, rows), "rows")
    return one_form(outs, ins, power, rows)


def one_rows(many):
    """The rows of the table one of many wires."""
    wide = range(1 << many)
    return [[ONE if y == x else NOUGHT for x in wide] for y in wide]


def one_table(many):
    """The table one of many wires."""
    return one_form(many, many, 0, one_rows(many))


def nought_table(outs, ins):
    """The table of noughts."""
    need(is_number_below(GREATEST_NOUGHT_WIDTH + 1, ins), "ins")
    return one_form(outs, ins, 0, [[NOUGHT] * (1 << ins)] * (1 << outs))


def entry_at(table, y, x):
    """The pair (exact, power), in its one form, that tells the entry at (y, x)."""
    outs, ins, power, rows = table
    need(is_number_below(1 << outs, y), "y")
    need(is_number_below(1 << ins, x), "x")
    return by_roots(rows[y][x], power)
