"""Which values are circuits, and the gates that make one of three wires."""

from lookundone.errors import need
from lookundone.kinds import is_number, is_number_below, is_tuple_of, is_turn

GREATEST_WIRES = 6
PAIR_GATES = ("cz", "cx", "swap")


def is_wires(thing):
    """True if thing is how many wires a circuit may have."""
    return is_number(thing) and thing <= GREATEST_WIRES


def is_gate(wires, thing):
    """True if thing is a gate of a circuit with so many wires."""
    if is_tuple_of(2, thing):
        return thing[0] == "h" and is_number_below(wires, thing[1])
    if not is_tuple_of(3, thing):
        return False
    word, one, other = thing
    if word == "turn":
        return is_turn(one) and one != 0 and is_number_below(wires, other)
    if not (isinstance(word, str) and word in PAIR_GATES):
        return False
    return is_number_below(wires, one) and is_number_below(wires, other) and one != other


def are_gates(wires, thing):
    """True if thing is a tuple of gates of a circuit with so many wires."""
    return isinstance(thing, tuple) and all(is_gate(wires, part) for part in thing)


def is_circuit(thing):
    """True if thing is a circuit."""
    return is_tuple_of(2, thing) and is_wires(thing[0]) and are_gates(thing[0], thing[1])


def circuit_of(wires, gates):
    """The circuit of so many wires with these gates."""
    need(is_wires(wires), "wires")
    need(are_gates(wires, gates), "gates")
    return (wires, gates)


def ccz_gates(one, other, third):
    """The gates that give -1 where the bits of all three wires are 1."""
    need(is_number_below(GREATEST_WIRES, other) and other != one, "other")
    need(is_number_below(GREATEST_WIRES, third) and third not in (one, other), "third")
    return (
        ("turn", 1, one),
        ("turn", 1, other),
        ("turn", 1, third),
        ("cx", one, other),
        ("turn", 7, other),
        ("cx", third, other),
        ("turn", 1, other),
        ("cx", one, other),
        ("turn", 7, other),
        ("cx", third, other),
        ("cx", one, third),
        ("turn", 7, third),
        ("cx", one, third),
    )
