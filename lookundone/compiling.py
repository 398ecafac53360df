"""The compiled program of a circuit."""

from lookundone.circuitplans import Growing
from lookundone.webkinds import tie_of


class Compiling(Growing):
    """A program that grows gate by gate: each wire has a dot, and a turn to come."""

    def __init__(self, wires):
        Growing.__init__(self, wires)
        self.commands = []

    def do_h(self, wire):
        """Give the wire a new dot, and look at the one that it had."""
        dot = self.dots[wire]
        new = self.many
        self.commands.append(("new", new))
        self.commands.append(("tie", dot, new))
        self.commands.append(("look", dot, -self.turns[wire] % 8, (), ()))
        self.commands.append(("flip", new, (dot,)))
        self.dots[wire] = new
        self.turns[wire] = 0
        self.many += 1

    def do_cz(self, one, other):
        """Tie the dots of two wires, even if they are tied."""
        self.commands.append(("tie", *tie_of(self.dots[one], self.dots[other])))


def compiled(circuit):
    """The compiled program of the circuit."""
    wires, gates = circuit
    compiling = Compiling(wires)
    for gate in gates:
        compiling.do_gate(gate)
    turns = tuple(turn % 8 for turn in compiling.turns)
    return (tuple(range(wires)), tuple(compiling.dots), tuple(compiling.commands), turns)
