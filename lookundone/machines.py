"""Machines, which lead a run of a plan look by look."""

from lookundone.accountkinds import plan_in, waits_at
from lookundone.errors import NotDone, NotReady, need
from lookundone.flowkinds import is_flow
from lookundone.kinds import is_number_below
from lookundone.plankinds import angle_of, is_plan
from lookundone.quicks import quick_account
from lookundone.rightaccounts import right_account
from lookundone.states import is_odd_by
from lookundone.webkinds import is_dot_of, looked_of


class Machine:
    """A run of a plan by a flow: what was told, and which looks may come."""

    def __init__(self, plan, flow, fast):
        need(is_plan(plan), "plan")
        need(is_flow(plan[0], flow), "flow")
        need(isinstance(fast, bool), "fast")
        self.account = quick_account(plan, flow) if fast else right_account(plan, flow)
        self.outcomes = {}

    def ready(self):
        """The lot of the looked dots without an outcome whose waits all have one."""
        return tuple(
            dot
            for dot in self.left()
            if all([other in self.outcomes for other in waits_at(self.account, dot)])
        )

    def left(self):
        """The lot of the looked dots without an outcome."""
        return tuple(dot for dot in looked_of(self.account[0]) if dot not in self.outcomes)

    def told(self):
        """Pairs (dot, bit) for all outcomes, ascending."""
        return tuple(sorted(self.outcomes.items()))

    def angle(self, dot):
        """The turn at which to look at dot."""
        need(is_dot_of(looked_of(self.account[0]), dot), "dot")
        self.check_ready(dot)
        turn = angle_of(plan_in(self.account), dot)
        return -turn % 8 if is_odd_by(self.outcomes, waits_at(self.account, dot)) else turn

    def tell(self, dot, bit):
        """Give dot its outcome."""
        need(is_dot_of(looked_of(self.account[0]), dot), "dot")
        need(is_number_below(2, bit), "bit")
        self.check_ready(dot)
        self.outcomes[dot] = bit

    def check_ready(self, dot):
        """Refuse a dot that is not ready."""
        if dot not in self.ready():
            raise NotReady(dot)

    def ended(self):
        """The bits by which the outs are flipped and signed, and the turns that they get."""
        left = self.left()
        if left:
            raise NotDone(left)
        web, _, _, flips, signs = self.account
        return (
            tuple(1 if is_odd_by(self.outcomes, lot) else 0 for lot in flips),
            tuple(1 if is_odd_by(self.outcomes, lot) else 0 for lot in signs),
            tuple(-angle_of(plan_in(self.account), out) % 8 for out in web[3]),
        )
