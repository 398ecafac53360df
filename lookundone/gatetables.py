"""The tables of gates and of circuits."""

from lookundone.errors import need
from lookundone.exacts import exact_less, exact_product, exact_sum, unit
from lookundone.gatekinds import is_gate
from lookundone.tables import one_form, one_rows


def gate_table(wires, gate):
    """The table of a gate of a circuit with so many wires."""
    need(is_gate(wires, gate), "gate")
    return plain_table((wires, (gate,)))


def plain_table(circuit):
    """The table of the circuit."""
    wires, gates = circuit
    rows = one_rows(wires)
    power = 0
    for gate in gates:
        rows = rows_behind(rows, gate)
        # rows_behind leaves out that each h is over r.
        if gate[0] == "h":
            power += 1
    return one_form(wires, wires, power, rows)


def rows_behind(rows, gate):
    """The rows behind the gate, those of an h times r."""
    word = gate[0]
    if word == "h":
        return rows_behind_h(rows, 1 << gate[1])
    if word == "turn":
        return rows_turned(rows, 1 << gate[2], gate[1])
    one_bit = 1 << gate[1]
    other_bit = 1 << gate[2]
    if word == "cz":
        return rows_turned(rows, one_bit | other_bit, 4)
    if word == "cx":
        return [rows[y ^ other_bit] if y & one_bit else rows[y] for y in range(len(rows))]
    return [rows[exchanged(y, one_bit, other_bit)] for y in range(len(rows))]


def rows_behind_h(rows, bit):
    """The rows behind an h, times r."""
    found = []
    for y, row in enumerate(rows):
        at_nought = rows[y & ~bit]
        at_one = rows[y | bit]
        if y & bit:
            row = [exact_less(low, high) for low, high in zip(at_nought, at_one)]
        else:
            row = [exact_sum(low, high) for low, high in zip(at_nought, at_one)]
        found.append(row)
    return found


def rows_turned(rows, bits, turn):
    """The rows, with the unit of the turn where all of the bits are 1."""
    factor = unit(turn)
    found = []
    for y, row in enumerate(rows):
        if y & bits == bits:
            row = [exact_product(factor, exact) for exact in row]
        found.append(row)
    return found


def exchanged(y, one_bit, other_bit):
    """The number y with the two bits exchanged."""
    both = one_bit | other_bit
    return y ^ both if y & both in (one_bit, other_bit) else y
