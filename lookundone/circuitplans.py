"""The plan of a circuit."""

from lookundone.plankinds import plan_with
from lookundone.webkinds import web_of


class Growing:
    """A plan that grows gate by gate: each wire has a dot, and a turn to come."""

    def __init__(self, wires):
        self.dots = list(range(wires))
        self.turns = [0] * wires
        self.ties = []
        self.angles = {}
        self.many = wires

    def do_turn(self, turn, wire):
        """Add to the turn to come of the wire."""
        self.turns[wire] += turn

    def do_h(self, wire):
        """Give the wire a new dot, tied to the one that it had."""
        dot = self.dots[wire]
        self.angles[dot] = -self.turns[wire]
        self.ties.append((dot, self.many))
        self.dots[wire] = self.many
        self.turns[wire] = 0
        self.many += 1

    def do_cz(self, one, other):
        """Tie the dots of two wires once more."""
        self.ties.append((self.dots[one], self.dots[other]))

    def do_cx(self, one, other):
        """Do an h at the second wire, a cz, and an h again."""
        self.do_h(other)
        self.do_cz(one, other)
        self.do_h(other)

    def do_swap(self, one, other):
        """Exchange the dots and the turns to come of two wires."""
        self.dots[one], self.dots[other] = self.dots[other], self.dots[one]
        self.turns[one], self.turns[other] = self.turns[other], self.turns[one]

    def do_gate(self, gate):
        """Do what the gate tells."""
        word, *rest = gate
        if word == "turn":
            self.do_turn(*rest)
        elif word == "h":
            self.do_h(*rest)
        elif word == "cz":
            self.do_cz(*rest)
        elif word == "cx":
            self.do_cx(*rest)
        else:
            self.do_swap(*rest)

    def end(self):
        """Give the last dots the turns that are still to come."""
        for dot, turn in zip(self.dots, self.turns):
            self.angles[dot] = -turn


def circuit_plan(circuit):
    """The plan of the circuit."""
    wires, gates = circuit
    growing = Growing(wires)
    for gate in gates:
        growing.do_gate(gate)
    growing.end()
    dots = tuple(range(growing.many))
    web = web_of(dots, tuple(growing.ties), tuple(range(wires)), tuple(growing.dots))
    return plan_with(web, growing.angles)
