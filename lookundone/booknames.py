"""Which values are names and books, and the names of a book's parts."""

from lookundone.exprs import is_expr
from lookundone.kinds import is_number, is_tuple_of
from lookundone.words import GATE_WIRES, GREATEST_BUS, is_name_word


def is_name(thing):
    """True if thing is a name."""
    return isinstance(thing, str) and is_name_word(thing)


def is_book(thing):
    """True if thing is the book of some score."""
    return is_row_of(is_part, thing)


def is_row_of(is_kind, thing):
    """True if thing is a tuple, not empty, of values of the kind."""
    return isinstance(thing, tuple) and len(thing) > 0 and all(is_kind(part) for part in thing)


def is_part(thing):
    """True if thing is a part of a book."""
    if not (is_tuple_of(4, thing) and thing[0] == "part"):
        return False
    _, name, wires, lines = thing
    return is_name(name) and is_row_of(is_wire, wires) and are_lines(lines)


def is_wire(thing):
    """True if thing is a wire or a bus of a part."""
    return is_tuple_of(2, thing) and is_name(thing[0]) and is_number(thing[1]) and thing[1] <= GREATEST_BUS


def are_lines(thing):
    """True if thing is a tuple of lines, perhaps none."""
    return thing == () or is_row_of(is_line, thing)


def is_line(thing):
    """True if thing is a line of a book."""
    if not (isinstance(thing, tuple) and len(thing) > 0 and isinstance(thing[0], str)):
        return False
    is_rest = LINE_RESTS.get(thing[0])
    return is_rest is not None and is_rest(thing[1:])


def is_w(thing):
    """True if thing tells a wire, an item of a bus, or a bus."""
    if is_tuple_of(2, thing):
        return thing[0] == "wire" and is_name(thing[1])
    return is_tuple_of(3, thing) and thing[0] == "item" and is_name(thing[1]) and is_expr(thing[2])


def is_gate_rest(rest):
    """True if rest may follow the word of a gate's line; the others below tell it of their words."""
    if not (len(rest) == 2 and isinstance(rest[0], str) and is_row_of(is_w, rest[1])):
        return False
    return GATE_WIRES.get(rest[0], 0) == len(rest[1])


def is_turn_rest(rest):
    """True if rest may follow in the line of a turn."""
    return len(rest) == 2 and is_expr(rest[0]) and is_w(rest[1])


def is_use_rest(rest):
    """True if rest may follow in the line that uses a part."""
    return len(rest) == 2 and is_name(rest[0]) and is_row_of(is_w, rest[1])


def is_times_rest(rest):
    """True if rest may follow in a block of lines done several times."""
    return len(rest) == 2 and is_expr(rest[0]) and are_lines(rest[1])


def is_for_rest(rest):
    """True if rest may follow in a block of lines done with a name."""
    return len(rest) == 4 and is_name(rest[0]) and is_expr(rest[1]) and is_expr(rest[2]) and are_lines(rest[3])


def is_back_rest(rest):
    """True if rest may follow in a block of lines done backwards."""
    return len(rest) == 1 and are_lines(rest[0])


LINE_RESTS = {
    "gate": is_gate_rest,
    "turn": is_turn_rest,
    "use": is_use_rest,
    "times": is_times_rest,
    "for": is_for_rest,
    "back": is_back_rest,
}


def part_names(book):
    """A tuple of the names of the parts, in sequence, duplicates too."""
    return tuple(part[1] for part in book)
