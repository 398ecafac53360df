"""Tables of tables: one behind another, side by side, mirrored, added."""

from lookundone.errors import need
from lookundone.exacts import NOUGHT, exact_product, exact_sum, mirror_of, times_roots
from lookundone.tables import is_table, one_form


def chained_row(row, lower):
    """For each x the sum over m of row[m] times lower[m][x]."""
    sums = [NOUGHT] * len(lower[0])
    for exact, entries in zip(row, lower):
        # Most tables of gates are nought nearly everywhere.
        if exact != NOUGHT:
            sums = [exact_sum(so_far, exact_product(exact, entry)) for so_far, entry in zip(sums, entries)]
    return sums


def chained(first, second):
    """The table of first, then second."""
    need(is_table(second) and second[1] == first[0], "second")
    rows = [chained_row(row, first[3]) for row in second[3]]
    return one_form(second[0], first[1], first[2] + second[2], rows)


def side_by_side(low, high):
    """The table of both, low's outs and ins ahead of high's."""
    need(is_table(high), "high")
    rows = []
    for high_row in high[3]:
        for low_row in low[3]:
            rows.append([exact_product(one, other) for other in high_row for one in low_row])
    return one_form(low[0] + high[0], low[1] + high[1], low[2] + high[2], rows)


def mirrored(table):
    """The table with the mirrors of its entries, at exchanged places."""
    outs, ins, power, rows = table
    turned_rows = [[mirror_of(row[x]) for row in rows] for x in range(1 << ins)]
    return one_form(ins, outs, power, turned_rows)


def rows_over(table, power):
    """The rows that, over r to the power, are the table; power is at least the table's."""
    return [[times_roots(exact, power - table[2]) for exact in row] for row in table[3]]


def added(one, other):
    """The table of the sums of the entries of two tables."""
    need(is_table(other) and other[:2] == one[:2], "other")
    power = max(one[2], other[2])
    rows = []
    for row, other_row in zip(rows_over(one, power), rows_over(other, power)):
        rows.append([exact_sum(exact, other_exact) for exact, other_exact in zip(row, other_row)])
    return one_form(one[0], one[1], power, rows)
