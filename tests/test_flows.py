"""[9], [59] to [61]: flows, their arrows and rounds, flows from lots by which looks can be led."""

import itertools
import random

from lookundone.circuitplans import circuit_plan
from lookundone.compiling import compiled
from lookundone.errors import InvalidPaper, NotUsable
from lookundone.flowkinds import arrows_of, flow_rounds, is_flow, lets_flow
from lookundone.focusing import focused
from lookundone.linear import keeps_arrows
from lookundone.programkinds import looks_of
from tests.common import ANY_VALUES, EMPTY, FAIR, LINE, PLUS, ROW, SEEN, TRI, StrictCase, wrong_places
from tests.flow_oracles import all_flows, flow_fault_plainly, odd_plainly, parts_of, rounds_plainly
from tests.oracles import all_lots
from tests.some_webs import some_web, some_webs
from tests.test_circuits import some_circuit

ROW_FLOW = ((0, (1,)), (1, (2,)))
# An even web whose dots 0 and 1 are led by lots that have the other one: a ring of two arrows.
TWO_RING = ((0, 1, 2, 3), ((0, 1), (0, 2), (1, 3), (2, 3)), (), (2, 3))
WEBS = [ROW, TRI, PLUS, LINE, EMPTY, SEEN, FAIR, TWO_RING] + some_webs(60, 59, 5)


def wide_flow(seed, wires=20, many=60):
    """A web with as many dots, and a flow of it, from a circuit with so many wires."""
    chance = random.Random(seed)
    gates = []
    while wires + sum(gate[0] == "h" for gate in gates) < many:
        j, k = chance.sample(range(wires), 2)
        gates.append(chance.choice((("h", k), ("cz", j, k), ("swap", j, k))))
    circuit = (wires, tuple(gates))
    return circuit_plan(circuit)[0], looks_of(compiled(circuit))


def followers(web, order):
    """The lot of the dot that came in the place of each dot of an order, for a web of a circuit."""
    lots = []
    free = [dot for dot in web[0] if dot not in web[2]]
    for dot in order:
        # The dots are made one by one, each at the look that comes next.
        lots.append((free.pop(0),))
    return tuple(lots)


class FlowKindsTest(StrictCase):
    def checks(self, web, thing):
        fault = flow_fault_plainly(web, thing)
        if fault is None:
            self.assertIs(is_flow(web, thing), True)
            rounds = rounds_plainly(web, dict(thing))
            self.same(lets_flow(web, thing), max(rounds.values(), default=0))
            self.same(flow_rounds(web, thing), tuple(sorted(rounds.items())))
            looked, _ = parts_of(web)
            arrows = sorted((one, other) for one, lot in thing for other in lot if other in looked)
            self.same(arrows_of(web, thing), tuple(arrows))
        else:
            self.assertIs(is_flow(web, thing), False, (web, thing))
            self.raises(InvalidPaper, {"word": fault[0], "at": fault[1]}, lets_flow, web, thing)
            self.refuses("flow", arrows_of, web, thing)
            self.refuses("flow", flow_rounds, web, thing)
        return fault

    def faulty(self, word, at, web, thing):
        self.assertEqual(self.checks(web, thing), (word, at))

    def test_all_flows_of_small_webs(self):
        done = 0
        for web in WEBS:
            flows = list(itertools.islice(all_flows(web), 12))
            done += len(flows)
            for flow in flows:
                self.assertIsNone(self.checks(web, flow))
            if len(web[2]) == len(web[3]):
                self.assertLessEqual(len(flows), 1)
        self.assertGreater(done, 40)

    def test_some(self):
        self.same(lets_flow(EMPTY, ()), 0)
        self.same(lets_flow(((4, 7), ((4, 7),), (7, 4), (4, 7)), ()), 0)
        self.same(lets_flow(ROW, ROW_FLOW), 2)
        self.same(lets_flow(PLUS, ((0, (1,)),)), 1)
        self.same(lets_flow(LINE, ((0, (1, 3)), (1, (2,)), (2, (3,)))), 3)
        self.same(arrows_of(LINE, ((0, (1, 3)), (1, (2,)), (2, (3,)))), ((0, 1), (1, 2)))
        self.same(flow_rounds(LINE, ((0, (1, 3)), (1, (2,)), (2, (3,)))), ((0, 1), (1, 2), (2, 3)))
        # More outs than ins: two flows, one of them with a round more.
        wide = ((0, 1, 2, 3), ((0, 2), (0, 3), (1, 2)), (), (2, 3))
        self.same(lets_flow(wide, ((0, (3,)), (1, (2, 3)))), 1)

    def test_shape(self):
        for thing in (
            None, True, 0, "", [], list(ROW_FLOW), (), ROW_FLOW[:1], ROW_FLOW[::-1], ROW_FLOW + ((2, ()),),
            ([0, (1,)], (1, (2,))), ((0, (1,), ()), (1, (2,))), ((0,), (1,)), ((False, (1,)), (1, (2,))),
            ((0, (1,)), (True, (2,))), ((0, (1,)), (2, (2,))), ((0, (1,)), (0, (1,))), (("0", (1,)), (1, (2,))),
            (((0, (1,)),), (1, (2,))), ((None, (1,)), (1, (2,))), (0, 1), ((), ()), ((0, None), (2, None)),
        ):
            self.faulty("shape", -1, ROW, thing)
        for thing in ANY_VALUES:
            if thing != ():
                self.faulty("shape", -1, EMPTY, thing)
            self.faulty("shape", -1, ROW, thing)

    def test_lots(self):
        for lot in (
            None, 1, True, "", "1", [], [1], (True,), (0,), (0, 1), (2, 1), (1, 1), (3,), (10000,), (-1,), ("1",), ((1,),), (None,),
        ):
            self.faulty("lot", 0, ROW, ((0, lot), (1, lot)))
            self.faulty("lot", 1, ROW, ((0, (1,)), (1, lot)))
            # All of one pair comes ahead of the next one.
            self.faulty("odd", 0, ROW, ((0, (2,)), (1, lot)))

    def test_odd(self):
        for lot in ((), (2,), (1, 2)):
            self.faulty("odd", 0, ROW, ((0, lot), (1, (2,))))
            self.faulty("odd", 0, ROW, ((0, lot), (1, ())))
        for lot in ((), (1,), (1, 2)):
            self.faulty("odd", 1, ROW, ((0, (1,)), (1, lot)))
        self.faulty("lot", 1, TRI, ((0, (1,)), (1, (0,))))
        self.faulty("odd", 0, TRI, ((0, (2,)), (1, (2,))))
        self.faulty("odd", 1, LINE, ((0, (1, 3)), (1, (2, 3)), (2, (3,))))
        self.faulty("odd", 0, LINE, ((0, (1,)), (1, (2,)), (2, (3,))))

    def test_rings(self):
        one = ((0, 1), ((0, 1),), (), ())
        self.faulty("ring", -1, one, ((0, (1,)), (1, (0,))))
        triangle = ((0, 1, 2), ((0, 1), (0, 2), (1, 2)), (), (2,))
        self.faulty("ring", -1, triangle, ((0, (0, 2)), (1, (1, 2))))
        self.faulty("ring", -1, triangle, ((0, (1,)), (1, (0,))))
        three = ((0, 1, 2, 3, 4, 5), ((0, 3), (1, 4), (2, 5), (3, 4), (3, 5), (4, 5)), (0, 1, 2), (3, 4, 5))
        found = set()
        for web in WEBS + [three]:
            looked, made = parts_of(web)
            if 1 <= len(looked) <= 4:
                choices = [
                    [lot for lot in all_lots(made) if odd_plainly(web, lot) & set(looked) == {dot}] for dot in looked
                ]
                for lots in itertools.islice(itertools.product(*choices), 60):
                    found.add(self.checks(web, tuple(zip(looked, lots))))
        self.assertEqual(found, {None, ("ring", -1)})

    def test_rings_of_one_two_and_three_arrows(self):
        # Without outs, and dots tied so that each lot is one dot: dot k is led by the dot behind it.
        pair = ((0, 1, 2, 3), ((0, 1), (2, 3)), (), ())
        self.faulty("ring", -1, pair, ((0, (1,)), (1, (0,)), (2, (3,)), (3, (2,))))
        # A dot in its own lot: 0 is tied to 1, whose lot leads 0 as well as itself.
        loop = ((0, 1, 2), ((0, 1), (0, 2), (1, 2)), (1,), (1,))
        self.faulty("ring", -1, loop, ((0, (2,)), (2, (0,))))
        self.faulty("ring", -1, ((0, 1, 2), ((0, 1), (0, 2), (1, 2)), (), (2,)), ((0, (0, 2)), (1, (1, 2))))
        # Three looked dots in a ring of three arrows and outs that take away what is too much.
        ring = (
            (0, 1, 2, 3, 4, 5),
            ((0, 1), (0, 2), (1, 2), (0, 3), (1, 4), (2, 5)), (), (3, 4, 5),
        )
        self.faulty("ring", -1, ring, ((0, (1, 5)), (1, (2, 3)), (2, (0, 4))))
        self.assertIsNone(self.checks(ring, ((0, (3,)), (1, (4,)), (2, (5,)))))
        self.assertIsNone(self.checks(ring, ((0, (1, 5)), (1, (4,)), (2, (5,)))))
        self.faulty("ring", -1, ring, ((0, (1, 5)), (1, (0, 5)), (2, (5,))))

    def test_several_faults(self):
        self.faulty("shape", -1, ROW, ((0, [1]), (1, (0,)), None))
        self.faulty("lot", 0, ROW, ((0, (0,)), (1, (0,))))
        self.faulty("odd", 0, ROW, ((0, ()), (1, (0,))))
        self.faulty("odd", 0, ((0, 1), ((0, 1),), (), ()), ((0, (0, 1)), (1, (0,))))
        for flow in (ROW_FLOW,):
            for wrong in wrong_places(flow, (None, True, False, 0, 1, 2, 3, -1, "", (), [], (1,), (2,), (1, 2), (0,))):
                self.checks(ROW, wrong)

    def test_wide_webs(self):
        for seed in range(3):
            web, order = wide_flow(seed)
            self.assertEqual((len(web[0]), len(web[2]), len(web[3])), (60, 20, 20))
            flow = focused(web, order, followers(web, order))
            self.assertIsNone(self.checks(web, flow))
            dot, lot = flow[17]
            for wrong in ((), (*lot, 9999), (web[2][0],), lot[1:] or (web[3][0],)):
                self.assertEqual(self.checks(web, flow[:17] + ((dot, wrong),) + flow[18:])[1], 17)


class FocusedTest(StrictCase):
    def lots_for(self, web, order, place):
        """All lots by which the look at this place can be led."""
        _, made = parts_of(web)
        seen = set(order[:place + 1])
        return [
            lot for lot in all_lots([dot for dot in made if dot not in seen])
            if odd_plainly(web, lot) & seen == {order[place]}
        ]

    def flow_plainly(self, web, order, lots):
        """The flow told by the rule, from the last place to the first one."""
        flow = {}
        for k in reversed(range(len(order))):
            lot = set(lots[k])
            for j in range(k + 1, len(order)):
                if order[j] in odd_plainly(web, lots[k]):
                    lot ^= set(flow[order[j]])
            flow[order[k]] = tuple(sorted(lot))
        return tuple(sorted(flow.items()))

    def test_orders_of_small_webs(self):
        chance = random.Random(61)
        done = changed = 0
        for web in WEBS + [some_web(chance, 4 + k % 3, 30, k % 2, 2 + k % 2) for k in range(40)]:
            looked, _ = parts_of(web)
            for order in itertools.islice(itertools.permutations(looked), 24):
                choices = [self.lots_for(web, order, place) for place in range(len(order))]
                if not all(choices):
                    continue
                for _ in range(3):
                    lots = tuple(chance.choice(choice) for choice in choices)
                    found = focused(web, order, lots)
                    self.same(found, self.flow_plainly(web, order, lots))
                    self.assertIsNone(flow_fault_plainly(web, found))
                    self.assertTrue(keeps_arrows(order, arrows_of(web, found)))
                    done += 1
                    changed += dict(found) != dict(zip(order, lots))
        self.assertGreater(done, 100)
        self.assertGreater(changed, 30)

    def test_some(self):
        self.same(focused(EMPTY, (), ()), ())
        self.same(focused(SEEN[:3] + ((0, 1),), (), ()), ())
        self.same(focused(ROW, (0, 1), ((1,), (2,))), ROW_FLOW)
        self.same(focused(LINE, (0, 1, 2), ((1,), (2,), (3,))), ((0, (1, 3)), (1, (2,)), (2, (3,))))

    def test_lots_at_fault(self):
        for k, good in ((0, ((1,), (2,), (3,))), (1, ((1,), (2,), (3,))), (2, ((1, 3), (2,), (3,)))):
            for wrong in (
                None, 1, True, "", [], [2], (), (0,), (True,), (3, 1), (9,), (10000,), ((1,),), (0, 1), (k, 3), ("1",), (1, 1),
            ):
                lots = good[:k] + (wrong,) + good[k + 1:]
                self.raises(NotUsable, {"word": "lots", "at": k}, focused, LINE, (0, 1, 2), lots)
                # The first one at fault counts.
                more = good[:k] + (wrong,) * (3 - k)
                self.raises(NotUsable, {"word": "lots", "at": k}, focused, LINE, (0, 1, 2), more)
        # Seen dots, and lots whose odd lots have another seen dot, or not the one at the place.
        self.raises(NotUsable, {"word": "lots", "at": 1}, focused, ROW, (1, 0), ((2,), (1,)))
        self.raises(NotUsable, {"word": "lots", "at": 1}, focused, ROW, (1, 0), ((2,), (2,)))
        self.raises(NotUsable, {"word": "lots", "at": 0}, focused, ROW, (1, 0), ((1,), (2,)))
        self.raises(NotUsable, {"word": "lots", "at": 1}, focused, TRI, (0, 1), ((2,), (2,)))

    def test_no_lots(self):
        for wrong in ANY_VALUES + (((1,),), ((1,), (2,), ()), [(1,), (2,)], "ab"):
            if type(wrong) is not tuple or len(wrong) != 2:
                self.refuses("lots", focused, ROW, (0, 1), wrong)
        self.refuses("lots", focused, EMPTY, (), ((),))
        self.refuses("lots", focused, EMPTY, (), [])

    def test_no_order(self):
        for wrong in ANY_VALUES + ((0,), (1, 1), (0, 2), (0, 1, 1), (False, 1), (0, True), [0, 1], (0, 3), ("0", "1"), (1, 0, 2)):
            if repr(wrong) != "(0, 1)":
                for lots in (((1,), (2,)), None, ()):
                    self.refuses("order", focused, ROW, wrong, lots)
        self.refuses("order", focused, EMPTY, (0,), ())

    def test_wide_webs(self):
        for seed in range(3):
            web, order = wide_flow(seed + 10)
            lots = followers(web, order)
            found = focused(web, order, lots)
            self.same(found, self.flow_plainly(web, order, lots))
            self.assertIsNone(flow_fault_plainly(web, found))
            self.assertTrue(keeps_arrows(order, arrows_of(web, found)))

    def test_circuits(self):
        chance = random.Random(62)
        for k in range(25):
            circuit = some_circuit(chance, 1 + k % 4, 12)
            web, order = circuit_plan(circuit)[0], looks_of(compiled(circuit))
            flow = focused(web, order, followers(web, order))
            self.assertIsNone(flow_fault_plainly(web, flow))
            self.assertTrue(is_flow(web, flow))
