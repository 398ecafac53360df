"""Which values are integers, numbers, turns, exact values, lots and rows of bits."""

GREATEST_TURN = 7
GREATEST_DOT = 9999


def is_integer(thing):
    """True if thing is an integer; a bool is none."""
    return isinstance(thing, int) and not isinstance(thing, bool)


def is_number(thing):
    """True if thing is an integer that is at least 0."""
    return is_integer(thing) and thing >= 0


def is_number_below(bound, thing):
    """True if thing is a number below bound."""
    return is_number(thing) and thing < bound


def is_turn(thing):
    """True if thing is a turn."""
    return is_number(thing) and thing <= GREATEST_TURN


def is_dot(thing):
    """True if thing is a dot."""
    return is_number(thing) and thing <= GREATEST_DOT


def is_tuple_of(many, thing):
    """True if thing is a tuple of many values."""
    return isinstance(thing, tuple) and len(thing) == many


def is_exact(thing):
    """True if thing is an exact value."""
    return is_tuple_of(4, thing) and all(is_integer(part) for part in thing)


def is_ascending(things):
    """True if each of the things, which Python can sort, is above the one ahead of it."""
    return all(one < other for one, other in zip(things, things[1:]))


def is_lot(thing):
    """True if thing is a lot."""
    return isinstance(thing, tuple) and all(is_dot(part) for part in thing) and is_ascending(thing)


def is_lot_of(dots, thing):
    """True if thing is a lot of some of the dots."""
    return is_lot(thing) and all(part in dots for part in thing)


def is_dots(thing):
    """True if thing is a tuple of different dots, in any sequence."""
    return isinstance(thing, tuple) and all(is_dot(part) for part in thing) and len(set(thing)) == len(thing)


def is_dots_of(dots, thing):
    """True if thing is a tuple of different ones of the dots, in any sequence."""
    return is_dots(thing) and all(part in dots for part in thing)


def is_bits(many, thing):
    """True if thing is a tuple of many bits."""
    return is_tuple_of(many, thing) and all(is_number_below(2, part) for part in thing)


def is_turns(many, thing):
    """True if thing is a tuple of many turns."""
    return is_tuple_of(many, thing) and all(is_turn(part) for part in thing)


def are_rows_of_dots(wide, dots, thing):
    """True if thing is a tuple of tuples of wide values, one for each of the dots, with the dot first, in sequence."""
    if not is_tuple_of(len(dots), thing):
        return False
    return all(is_tuple_of(wide, row) and is_integer(row[0]) and row[0] == dot for dot, row in zip(dots, thing))


def are_lots_of(dots, many, thing):
    """True if thing is a tuple of many lots of some of the dots."""
    return is_tuple_of(many, thing) and all(is_lot_of(dots, part) for part in thing)
