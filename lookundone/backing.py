"""Plans led back to circuits."""

from lookundone.circuitplans import circuit_plan
from lookundone.errors import NotEven
from lookundone.plankinds import angles_by_dot
from lookundone.settling import flow_of
from lookundone.shortening import shortened
from lookundone.webchanges import retied
from lookundone.webkinds import is_even, looked_of, near_of


class Backing:
    """A plan from which gates are taken, the last one first."""

    def __init__(self, plan):
        self.web = plan[0]
        self.angles = angles_by_dot(plan)
        self.found = []

    def wire_of(self, out):
        """The wire of an out."""
        return self.web[3].index(out)

    def take_turns(self):
        """Take the turns at the outs."""
        for wire, out in enumerate(self.web[3]):
            if self.angles[out]:
                self.found.append(("turn", -self.angles[out] % 8, wire))
                self.angles[out] = 0

    def take_ties(self):
        """Take the ties between outs."""
        outs = self.web[3]
        pairs = [(j, k) for k in range(len(outs)) for j in range(k) if outs[j] in near_of(self.web, outs[k])]
        self.found.extend([("cz", j, k) for j, k in sorted(pairs)])
        self.web = retied(self.web, (), [(outs[j], outs[k]) for j, k in pairs])

    def take_look(self):
        """Take the look at the least dot that is led by outs alone: it becomes an out."""
        _, _, ins, outs = self.web
        dot, lot = [(one, led) for one, led in flow_of(self.web) if all(other in outs for other in led)][0]
        gone, *others = lot
        wire = self.wire_of(gone)
        self.found.extend([("cx", wire, self.wire_of(other)) for other in others])
        self.found.append(("h", wire))
        # The ties that each cx toggles all go with this out.
        dots, ties, _, _ = retied(self.web, (gone,), [])
        self.web = (dots, ties, ins, (*outs[:wire], dot, *outs[wire + 1:]))

    def take_swaps(self):
        """Take swaps until the outs are the ins."""
        _, _, ins, outs = self.web
        left = list(outs)
        for k, dot in enumerate(ins):
            j = left.index(dot)
            if j != k:
                self.found.append(("swap", k, j))
                left[k], left[j] = left[j], left[k]

    def circuit(self):
        """The circuit of all gates."""
        self.take_turns()
        self.take_ties()
        while looked_of(self.web):
            self.take_look()
            self.take_turns()
            self.take_ties()
        self.take_swaps()
        return (len(self.web[2]), tuple(self.found[::-1]))


def circuit_back(plan):
    """A circuit whose table is the plan's map."""
    web = plan[0]
    if not is_even(web):
        raise NotEven(len(web[2]), len(web[3]))
    flow_of(web)
    return Backing(plan).circuit()


def shorter_circuit(circuit):
    """The circuit of the short plan of the circuit's plan."""
    short, _, _ = shortened(circuit_plan(circuit))
    return circuit_back(short)
