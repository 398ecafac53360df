"""Which tables are nought, which are alike, squares, and tables that are one number."""

from lookundone.errors import need
from lookundone.exacts import NOUGHT
from lookundone.products import chained, mirrored
from lookundone.scaling import turned
from lookundone.tables import entry_at, is_nought_rows, is_table


def is_nought(table):
    """True if all entries are nought."""
    return is_nought_rows(table[3])


def alike(one, other):
    """The turn whose unit times other is one, None if they are not alike."""
    need(is_table(other), "other")
    if is_nought(one):
        return None
    for turn in range(8):
        if turned(other, turn) == one:
            return turn
    return None


def square_of(table):
    """The table chained with it mirrored."""
    return chained(table, mirrored(table))


def number_of(table):
    """The entry at (0, 0) if the table is a table one times it, otherwise None."""
    outs, ins, _, rows = table
    if outs != ins:
        return None
    for y, row in enumerate(rows):
        for x, exact in enumerate(row):
            if exact != (rows[0][0] if y == x else NOUGHT):
                return None
    return entry_at(table, 0, 0)
