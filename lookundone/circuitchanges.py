"""Circuits turned about, one behind another and side by side, and how much is in them."""

from lookundone.errors import need
from lookundone.gatekinds import GREATEST_WIRES, is_circuit


def gate_back(gate):
    """The gate that undoes this one."""
    if gate[0] == "turn":
        return ("turn", -gate[1] % 8, gate[2])
    return gate


def gates_back(gates):
    """A list of the gates that undo these, from the last one to the first one."""
    return [gate_back(gate) for gate in reversed(gates)]


def inverse(circuit):
    """The circuit turned about."""
    wires, gates = circuit
    return (wires, tuple(gates_back(gates)))


def chained_circuits(first, second):
    """The circuit of first, then second."""
    need(is_circuit(second) and second[0] == first[0], "second")
    return (first[0], first[1] + second[1])


def gate_beside(gate, wires):
    """The gate at wires further behind."""
    if gate[0] == "h":
        return ("h", gate[1] + wires)
    if gate[0] == "turn":
        return ("turn", gate[1], gate[2] + wires)
    return (gate[0], gate[1] + wires, gate[2] + wires)


def beside_circuits(low, high):
    """The circuit of both, high's wires behind those of low."""
    need(is_circuit(high) and low[0] + high[0] <= GREATEST_WIRES, "high")
    moved = tuple(gate_beside(gate, low[0]) for gate in high[1])
    return (low[0] + high[0], low[1] + moved)


def odd_turns(circuit):
    """How many gates are odd turns."""
    return len([gate for gate in circuit[1] if gate[0] == "turn" and gate[1] % 2])


def h_number(circuit):
    """How many gates are h, a cx counting two."""
    words = [gate[0] for gate in circuit[1]]
    return words.count("h") + 2 * words.count("cx")
