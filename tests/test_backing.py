"""[11], [82] to [84]: plans led back to circuits, shorter circuits, plans with the same map."""

import random

from lookundone.backing import circuit_back, shorter_circuit
from lookundone.circuitchanges import h_number, odd_turns
from lookundone.circuitplans import circuit_plan
from lookundone.errors import NoFlow, NotEven
from lookundone.gatekinds import is_circuit
from lookundone.gatetables import plain_table
from lookundone.likeness import alike
from lookundone.plankinds import odd_angles
from lookundone.planjoins import beside_plans, chained_plans, renamed_plan
from lookundone.plansums import map_of
from lookundone.rules import rule_done, rules_of
from lookundone.samemaps import maps_alike
from lookundone.scaling import turned
from lookundone.settling import settle
from lookundone.shortening import shortened
from lookundone.webkinds import looked_of
from tests.common import EMPTY, FAIR, LINE, NEVER, PLUS, ROW, SEEN, TRI, StrictCase
from tests.rule_oracles import circuit_plainly
from tests.some_webs import some_plans, some_web, with_angles
from tests.test_circuits import some_circuit

CROSS = ((0, 1, 2, 3), ((0, 2), (1, 2), (1, 3)), (0, 1), (2, 3))


def even_plans(count, seed, most=8):
    """Plans of even webs with flows, not all of them plans of circuits."""
    chance = random.Random(seed)
    found = []
    while len(found) < count:
        ends = chance.randint(1, 3)
        web = some_web(chance, chance.randint(ends, most), 40, ends, ends, 0.5)
        if settle(web)[0] == "flow":
            found.append(with_angles(chance, web))
    return found


PLANS = [(ROW, (1, 2, 3)), (CROSS, (0, 0, 0, 0)), (EMPTY, ()), (LINE, (7, 6, 5, 4))] + even_plans(120, 82)


class CircuitBackTest(StrictCase):
    def test_step_by_step(self):
        words = {}
        for plan in PLANS:
            found = circuit_back(plan)
            self.same(found, circuit_plainly(plan))
            self.same(circuit_back(plan), found)
            self.assertTrue(is_circuit(found) or found[1] == ())
            for gate in found[1]:
                words[gate[0]] = words.get(gate[0], 0) + 1
            self.same(h_number(found) - 2 * sum(gate[0] == "cx" for gate in found[1]), len(looked_of(plan[0])))
            self.same(odd_turns(found), len(odd_angles(plan)))
        self.assertGreater(min(words[word] for word in ("turn", "h", "cz", "cx", "swap")), 3)

    def test_tables(self):
        for plan in PLANS:
            if len(plan[0][0]) <= 8:
                self.same(plain_table(circuit_back(plan)), map_of(plan), plan)

    def test_circuits(self):
        chance = random.Random(821)
        for k in range(40):
            circuit = some_circuit(chance, 1 + k % 4, 12)
            found = circuit_back(circuit_plan(circuit))
            self.same(plain_table(found), plain_table(circuit))
            self.same(odd_turns(found) <= odd_turns(circuit), True)

    def test_some(self):
        self.same(circuit_back((ROW, (1, 2, 3))), (1, (("turn", 7, 0), ("h", 0), ("turn", 6, 0), ("h", 0), ("turn", 5, 0))))
        self.same(circuit_back((CROSS, (0, 0, 0, 0))), (2, (("h", 1), ("h", 0), ("cx", 0, 1))))
        self.same(circuit_back((EMPTY, ())), (0, ()))
        # No looked dots: ins that are outs in another sequence, tied and turned.
        web = ((1, 2, 3), ((1, 2), (1, 3)), (1, 2, 3), (3, 1, 2))
        self.same(
            circuit_back((web, (1, 0, 7))),
            (3, (("swap", 1, 2), ("swap", 0, 1), ("cz", 1, 2), ("cz", 0, 1), ("turn", 7, 1), ("turn", 1, 0))),
        )
        self.same(circuit_back((((1, 2), (), (2, 1), (2, 1)), (0, 0))), (2, ()))
        self.same(circuit_back((((1, 2), (), (1, 2), (2, 1)), (0, 0))), (2, (("swap", 0, 1),)))

    def test_errors(self):
        for web in (PLUS, FAIR, ((0,), (), (0,), ()), ((0, 1, 2), ((0, 2), (1, 2)), (0, 1), (2,))):
            fields = {"ins": len(web[2]), "outs": len(web[3])}
            self.raises(NotEven, fields, circuit_back, (web, (1,) * len(web[0])))
        for web in (TRI, SEEN, ((0,), (), (), ()), ((4, 5), ((4, 5),), (), ())):
            self.raises(NoFlow, {"paper": settle(web)}, circuit_back, (web, (1,) * len(web[0])))

    def test_four_to_six_wires(self):
        chance = random.Random(826)
        for k in range(9):
            circuit = some_circuit(chance, 4 + k % 3, 14)
            plan = circuit_plan(circuit)
            found = circuit_back(plan)
            self.same(plain_table(found), plain_table(circuit))
            if len(looked_of(plan[0])) <= 6:
                self.same(found, circuit_plainly(plan))
        # Outs tied to each other, all of them, and in another sequence than the ins.
        for wires in (4, 5, 6):
            dots = tuple(range(wires))
            ties = tuple((j, k) for k in dots for j in range(k))
            web = (dots, tuple(sorted(ties)), dots, tuple(chance.sample(dots, wires)))
            plan = with_angles(chance, web)
            self.same(circuit_back(plan), circuit_plainly(plan))
            self.same(plain_table(circuit_back(plan)), map_of(plan))


class ShorterTest(StrictCase):
    def test_circuits(self):
        chance = random.Random(83)
        shorter = 0
        for k in range(60):
            circuit = some_circuit(chance, 1 + k % 3, 14)
            short, _, turn = shortened(circuit_plan(circuit))
            found = shorter_circuit(circuit)
            self.same(found, circuit_back(short))
            self.same(turned(plain_table(found), turn), plain_table(circuit))
            self.assertLessEqual(odd_turns(found), odd_turns(circuit))
            shorter += len(found[1]) < len(circuit[1])
        self.assertGreater(shorter, 10)

    def test_wide(self):
        chance = random.Random(831)
        for wires in (2, 4):
            circuit = (wires, ())
            while len(circuit_plan(circuit)[0][0]) < 31:
                circuit = (wires, circuit[1] + some_circuit(chance, wires, 1)[1])
            self.assertLessEqual(len(circuit_plan(circuit)[0][0]), 32)
            turn = shortened(circuit_plan(circuit))[2]
            found = shorter_circuit(circuit)
            self.same(turned(plain_table(found), turn), plain_table(circuit))
            self.assertLessEqual(odd_turns(found), odd_turns(circuit))

    def test_some(self):
        self.same(shorter_circuit((0, ())), (0, ()))
        self.same(shorter_circuit((2, ())), (2, ()))
        self.same(shorter_circuit((1, (("h", 0),) * 4)), (1, (("h", 0),) * 2))
        self.same(shorter_circuit((1, (("turn", 2, 0), ("h", 0), ("turn", 6, 0)))), (1, (("turn", 2, 0), ("h", 0), ("turn", 6, 0))))


class SameMapsTest(StrictCase):
    def test_plans(self):
        plans = some_plans(40, 83, 5) + PLANS[:10]
        alike_ones = 0
        for one in plans:
            for other in plans:
                if len(one[0][0]) <= 6 and len(other[0][0]) <= 6:
                    wanted = alike(map_of(one), map_of(other))
                    self.same(maps_alike(one, other), wanted)
                    alike_ones += wanted is not None
        self.assertGreater(alike_ones, 40)

    def test_some(self):
        self.same(maps_alike((ROW, (0, 0, 0)), (((5,), (), (5,), (5,)), (0,))), 0)
        self.same(maps_alike((ROW, (0, 0, 1)), (ROW, (0, 0, 0))), None)
        # Other numbers of ins and of outs, and maps that are nought.
        self.same(maps_alike((PLUS, (0, 0)), (ROW, (0, 0, 0))), None)
        self.same(maps_alike((EMPTY, ()), (PLUS, (0, 0))), None)
        nought = (((0,), (), (), ()), (4,))
        self.same(maps_alike(nought, nought), None)
        self.same(maps_alike(nought, (EMPTY, ())), None)
        self.same(maps_alike((EMPTY, ()), (EMPTY, ())), 0)
        self.same(maps_alike(renamed_plan((LINE, (1, 2, 3, 4)), (9, 7, 5, 1)), (LINE, (1, 2, 3, 4))), 0)

    def test_rules(self):
        chance = random.Random(832)
        done = set()
        for _ in range(200):
            plan = with_angles(chance, some_web(chance, 5, 9, 1, 1, 0.5))
            for rule in rules_of(plan):
                new, turn = rule_done(plan, rule)
                if maps_alike(plan, plan) is not None:
                    self.same(maps_alike(plan, new), turn)
                    self.same(maps_alike(new, plan), -turn % 8)
                    done.add(turn)
        self.assertGreater(len(done), 4)

    def test_plans_that_the_package_returned(self):
        one = chained_plans((ROW, (1, 2, 0)), (ROW, (0, 0, 3)))
        self.same(maps_alike(one, shortened(one)[0]), shortened(one)[2])
        two = beside_plans((ROW, (1, 2, 0)), (ROW, (0, 0, 3)))
        self.same(maps_alike(two, shortened(two)[0]), shortened(two)[2])
        self.same(plain_table(circuit_back(two)), map_of(two))

    def test_no_plans(self):
        for second in NEVER + (ROW, [ROW, (0, 0, 0)], (ROW, (0, 0)), (ROW, [0, 0, 0]), (ROW, (0, 0, 8)), (ROW, (0, True, 0))):
            if second != (EMPTY, ()):
                self.refuses("second", maps_alike, (ROW, (0, 0, 0)), second)
