"""Clients, which have a worker run a plan that it can't see."""

from lookundone.errors import need
from lookundone.flowkinds import is_flow
from lookundone.kinds import is_number_below
from lookundone.machines import Machine
from lookundone.plankinds import is_plan
from lookundone.secrets import is_secrets
from lookundone.webkinds import is_dot_of, looked_of


class Client:
    """A blind run of a plan by a flow: a machine that is told the true outcomes, and the secrets that hide it."""

    def __init__(self, plan, flow, secrets):
        need(is_plan(plan), "plan")
        need(is_flow(plan[0], flow), "flow")
        need(is_secrets(plan[0], secrets), "secrets")
        looked = looked_of(plan[0])
        self.machine = Machine(plan, flow, False)
        self.secrets = {dot: pair for dot, pair in zip(looked, secrets)}

    def sends(self):
        """The pairs (dot, turn) sent, ascending."""
        return tuple((dot, turn) for dot, (turn, _) in self.secrets.items())

    def left(self):
        """The lot of the looked dots whose answers were not heard."""
        return self.machine.left()

    def ready(self):
        """The lot of those of them whose waits were all heard."""
        return self.machine.ready()

    def asks(self, dot):
        """The turn asked at dot."""
        # The machine refuses what is no looked dot, or not ready.
        angle = self.machine.angle(dot)
        turn, bit = self.secrets[dot]
        return (angle + turn + 4 * bit) % 8

    def hears(self, dot, bit):
        """Take the answer at dot."""
        need(is_dot_of(list(self.secrets), dot), "dot")
        need(is_number_below(2, bit), "bit")
        self.machine.tell(dot, bit ^ self.secrets[dot][1])

    def ended(self):
        """The bits by which the outs are flipped and signed, and the turns that they get."""
        return self.machine.ended()
