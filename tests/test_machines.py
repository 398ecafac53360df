"""[73]: machines at each of their states."""

import itertools
import random

from lookundone.errors import NotDone, NotReady, NotUsable
from lookundone.machines import Machine
from lookundone.quicks import quick_account
from lookundone.rightaccounts import right_account
from lookundone.settling import flow_of
from tests.common import ANY_VALUES, EMPTY, LINE, ROW, StrictCase
from tests.test_flows import wide_flow
from tests.test_rightaccounts import FLOW, FLOWS, LINE_FLOW, PLAN

# The looks at 0 and 1 may come in either sequence, that at 2 waits for 0 alone.
FORK = ((0, 1, 2, 3, 4), ((0, 2), (1, 3), (2, 3), (2, 4)), (0, 1), (4, 3))
NO_BITS = (None, True, False, -1, 2, 10 ** 30, "0", "", (), (0,), [], [1])


class Shadow:
    """What a machine is to answer, told by the words of the document."""

    def __init__(self, plan, flow, fast):
        self.account = quick_account(plan, flow) if fast else right_account(plan, flow)
        self.shown = {}
        (dots, _, _, outs), angles = plan
        self.angles = dict(zip(dots, angles))
        self.looked = [dot for dot in dots if dot not in outs]
        self.waits = dict(zip(self.looked, self.account[2]))

    def left(self):
        return tuple(dot for dot in self.looked if dot not in self.shown)

    def ready(self):
        return tuple(dot for dot in self.left() if set(self.waits[dot]) <= set(self.shown))

    def odd(self, lot):
        return sum(self.shown[dot] for dot in lot) % 2

    def angle(self, dot):
        return (-self.angles[dot] if self.odd(self.waits[dot]) else self.angles[dot]) % 8

    def ended(self):
        web, _, _, flips, signs = self.account
        return (
            tuple(self.odd(lot) for lot in flips), tuple(self.odd(lot) for lot in signs),
            tuple(-self.angles[out] % 8 for out in web[3]),
        )


class MachineTest(StrictCase):
    def answers(self, machine, shadow):
        """All that the machine answers now, compared with its shadow."""
        for _ in range(2):
            self.same(machine.left(), shadow.left())
            self.same(machine.ready(), shadow.ready())
            self.same(machine.told(), tuple(sorted(shadow.shown.items())))
        for dot in shadow.looked:
            if dot in shadow.ready():
                self.same(machine.angle(dot), shadow.angle(dot))
            else:
                self.raises(NotReady, {"dot": dot}, machine.angle, dot)
                self.raises(NotReady, {"dot": dot}, machine.tell, dot, 0)
                self.raises(NotReady, {"dot": dot}, machine.tell, dot, 1)
        for out in shadow.account[0][3]:
            self.refuses("dot", machine.angle, out)
            self.refuses("dot", machine.tell, out, 0)
        if shadow.left():
            self.raises(NotDone, {"dots": shadow.left()}, machine.ended)
        else:
            self.same(machine.ended(), shadow.ended())
            self.same(machine.ended(), shadow.ended())

    def test_runs(self):
        chance = random.Random(73)
        waited = 0
        for k, (plan, flow) in enumerate(FLOWS):
            for fast in (False, True):
                machine, shadow = Machine(plan, flow, fast), Shadow(plan, flow, fast)
                self.answers(machine, shadow)
                while shadow.left():
                    waited += shadow.ready() != shadow.left()
                    dot, bit = chance.choice(shadow.ready()), chance.randint(0, 1)
                    self.assertIsNone(machine.tell(dot, bit))
                    shadow.shown[dot] = bit
                    self.answers(machine, shadow)
        self.assertGreater(waited, 50)

    def test_all_outcomes_and_sequences(self):
        plan = (LINE, (1, 3, 6, 5))
        for fast in (False, True):
            for order in itertools.permutations((0, 1, 2)):
                for bits in itertools.product((0, 1), repeat=3):
                    machine, shadow = Machine(plan, LINE_FLOW, fast), Shadow(plan, LINE_FLOW, fast)
                    for dot, bit in zip(order, bits):
                        if dot not in shadow.ready():
                            self.answers(machine, shadow)
                            break
                        machine.tell(dot, bit)
                        shadow.shown[dot] = bit
                    self.answers(machine, shadow)

    def test_looks_in_several_sequences(self):
        flow = flow_of(FORK)
        self.same(Machine((FORK, (1, 2, 3, 4, 5)), flow, False).ready(), (0, 1))
        for order in itertools.permutations((0, 1, 2)):
            machine, shadow = Machine((FORK, (1, 2, 3, 4, 5)), flow, False), Shadow((FORK, (1, 2, 3, 4, 5)), flow, False)
            for dot in order:
                if dot in shadow.ready():
                    machine.tell(dot, 1)
                    shadow.shown[dot] = 1
                self.answers(machine, shadow)

    def test_some(self):
        machine = Machine(PLAN, FLOW, False)
        self.same(machine.ready(), (0,))
        self.same(machine.left(), (0, 1))
        self.same(machine.told(), ())
        self.same(machine.angle(0), 1)
        self.raises(NotReady, {"dot": 1}, machine.angle, 1)
        self.raises(NotReady, {"dot": 1}, machine.tell, 1, 0)
        machine.tell(bit=1, dot=0)
        self.raises(NotReady, {"dot": 0}, machine.angle, 0)
        self.raises(NotReady, {"dot": 0}, machine.tell, 0, 1)
        self.raises(NotDone, {"dots": (1,)}, machine.ended)
        self.same(machine.angle(dot=1), 6)
        machine.tell(1, 0)
        self.same(machine.told(), ((0, 1), (1, 0)))
        self.same(machine.ended(), ((0,), (1,), (0,)))
        fast = Machine(fast=True, flow=FLOW, plan=PLAN)
        self.same(fast.ready(), (0, 1))
        fast.tell(1, 1)
        self.same(fast.angle(0), 1)
        empty = Machine((EMPTY, ()), (), False)
        self.same((empty.ready(), empty.left(), empty.told(), empty.ended()), ((), (), (), ((), (), ())))

    def test_outs_alone(self):
        machine = Machine((((4, 9), ((4, 9),), (), (9, 4)), (3, 0)), (), True)
        self.same(machine.ended(), ((0, 0), (0, 0), (0, 5)))

    def test_two_machines_by_turns(self):
        one, other = Machine(PLAN, FLOW, False), Machine(PLAN, FLOW, False)
        one_shadow, other_shadow = Shadow(PLAN, FLOW, False), Shadow(PLAN, FLOW, False)
        for dot in (0, 1):
            one.tell(dot, 1)
            one_shadow.shown[dot] = 1
            self.answers(one, one_shadow)
            self.answers(other, other_shadow)
            other.tell(dot, 0)
            other_shadow.shown[dot] = 0
            self.answers(one, one_shadow)
            self.answers(other, other_shadow)

    def test_wide(self):
        web = wide_flow(73, 10, 32)[0]
        plan, flow = (web, tuple(k % 8 for k in range(32))), flow_of(web)
        machine, shadow = Machine(plan, flow, False), Shadow(plan, flow, False)
        while shadow.left():
            dot = shadow.ready()[-1]
            self.same(machine.angle(dot), shadow.angle(dot))
            machine.tell(dot, len(shadow.shown) % 2)
            shadow.shown[dot] = len(shadow.shown) % 2
        self.answers(machine, shadow)

    def test_wrong_parameters(self):
        no_plans = ANY_VALUES + (ROW, (ROW, (0, 0)), (ROW, [0, 0, 0]), [ROW, (0, 0, 0)], (ROW, (0, 0, True)), (ROW, (0, 0, 8)))
        no_flows = ANY_VALUES + (list(FLOW), FLOW[:1], FLOW[::-1], ((0, [1]), (1, (2,))), ((False, (1,)), (1, (2,))))
        no_fast = tuple(thing for thing in ANY_VALUES if not isinstance(thing, bool)) + (1, 0, [True], (False,))
        for plan in no_plans:
            if plan not in (((), ()), (((), (), (), ()), ())):
                self.refuses("plan", Machine, plan, FLOW, False)
                self.refuses("plan", Machine, plan, None, None)
        for flow in no_flows:
            self.refuses("flow", Machine, PLAN, flow, True)
            self.refuses("flow", Machine, PLAN, flow, 1)
        for fast in no_fast:
            self.refuses("fast", Machine, PLAN, FLOW, fast)

    def test_wrong_dots_and_bits(self):
        machine, shadow = Machine(PLAN, FLOW, False), Shadow(PLAN, FLOW, False)
        for dot in ANY_VALUES + (2, 3, 9999, 10000, [0]):
            if not isinstance(dot, int) or isinstance(dot, bool) or dot not in (0, 1):
                self.refuses("dot", machine.angle, dot)
                for bit in NO_BITS + (0, 1):
                    self.refuses("dot", machine.tell, dot, bit)
        for bit in NO_BITS:
            # The bit comes ahead of whether the dot is ready.
            self.refuses("bit", machine.tell, 0, bit)
            self.refuses("bit", machine.tell, 1, bit)
        self.answers(machine, shadow)
        machine.tell(0, 0)
        for bit in NO_BITS:
            self.refuses("bit", machine.tell, 0, bit)
        with self.assertRaises(NotUsable):
            machine.tell(2, 0)
        shadow.shown[0] = 0
        self.answers(machine, shadow)
