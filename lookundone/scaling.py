"""Tables times powers of the root of two, and times units."""

from lookundone.errors import need
from lookundone.exacts import exact_product, unit
from lookundone.kinds import is_integer, is_turn
from lookundone.tables import GREATEST_POWER, one_form


def scaled(table, many):
    """The table times r to the many."""
    need(is_integer(many) and -GREATEST_POWER <= many <= GREATEST_POWER, "many")
    outs, ins, power, rows = table
    return one_form(outs, ins, power - many, rows)


def turned(table, turn):
    """The table times the unit of the turn."""
    need(is_turn(turn), "turn")
    outs, ins, power, rows = table
    factor = unit(turn)
    return one_form(outs, ins, power, [[exact_product(factor, exact) for exact in row] for row in rows])


def negative(table):
    """The table times -1."""
    return turned(table, 4)
