"""The text of a circuit."""

from lookundone.booktexts import book_text


def circuit_text(circuit):
    """The text of one part "main" with a bus q of the circuit's wires, and its gates as lines."""
    wires, gates = circuit
    lines = tuple(gate_line(gate) for gate in gates)
    return book_text((("part", "main", (("q", wires),), lines),))


def gate_line(gate):
    """The line of a gate."""
    if gate[0] == "turn":
        return ("turn", ("num", gate[1]), item(gate[2]))
    return ("gate", gate[0], tuple(item(wire) for wire in gate[1:]))


def item(wire):
    """The item of the bus that is this wire."""
    return ("item", "q", ("num", wire))
