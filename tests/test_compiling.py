"""[42], [44]: compiled programs of circuits, plain programs of plans."""

import random

from lookundone.accounts import account_of
from lookundone.branches import branch_of, branches_of
from lookundone.circuitchanges import h_number
from lookundone.circuitplans import circuit_plan
from lookundone.compiling import compiled
from lookundone.gatetables import plain_table
from lookundone.plainprograms import plain_program
from lookundone.plankinds import more_angle
from lookundone.plansums import map_of
from lookundone.programchecker import is_program
from lookundone.programkinds import looks_of
from lookundone.rightness import is_right, mapped, right_at
from lookundone.scaling import scaled
from lookundone.webkinds import looked_of, made_of
from tests.common import EMPTY, PLUS, ROW, STEP, TRI, StrictCase
from tests.program_oracles import all_bits
from tests.some_webs import some_plans, some_web, with_angles
from tests.test_circuits import all_gates, some_circuit


def compiled_plainly(wires, gates):
    """The compiled program, told gate by gate, with each cx as the three gates that it is."""
    dots = list(range(wires))
    turns = [0] * wires
    commands = []
    count = wires
    plain = []
    for gate in gates:
        plain += [("h", gate[2]), ("cz", gate[1], gate[2]), ("h", gate[2])] if gate[0] == "cx" else [gate]
    for word, *rest in plain:
        if word == "turn":
            turns[rest[1]] = (turns[rest[1]] + rest[0]) % 8
        elif word == "h":
            k = rest[0]
            commands += [
                ("new", count), ("tie", dots[k], count), ("look", dots[k], (8 - turns[k]) % 8, (), ()),
                ("flip", count, (dots[k],)),
            ]
            dots[k], turns[k] = count, 0
            count += 1
        else:
            j, k = rest
            if word == "cz":
                commands.append(("tie", min(dots[j], dots[k]), max(dots[j], dots[k])))
            else:
                dots[j], dots[k] = dots[k], dots[j]
                turns[j], turns[k] = turns[k], turns[j]
    return tuple(range(wires)), tuple(dots), tuple(commands), tuple(turns)


class CompiledTest(StrictCase):
    def checks(self, circuit):
        found = compiled(circuit)
        self.same(found, compiled_plainly(*circuit))
        self.assertTrue(is_program(found))
        return found

    def test_each_gate(self):
        self.same(compiled((1, (("turn", 1, 0), ("h", 0)))), STEP)
        for wires in range(4):
            self.same(self.checks((wires, ())), (tuple(range(wires)), tuple(range(wires)), (), (0,) * wires))
            for gate in all_gates(wires):
                self.checks((wires, (gate,)))

    def test_all_gates(self):
        chance = random.Random(42)
        for k in range(60):
            self.checks(some_circuit(chance, k % 7, k + 20))

    def test_turns_to_come_at_the_outs(self):
        self.same(self.checks((1, (("turn", 5, 0), ("turn", 6, 0)))), ((0,), (0,), (), (3,)))
        self.same(self.checks((1, (("turn", 5, 0), ("turn", 3, 0)))), ((0,), (0,), (), (0,)))
        self.same(self.checks((2, (("turn", 5, 0), ("swap", 0, 1), ("turn", 4, 1)))), ((0, 1), (1, 0), (), (0, 1)))
        self.same(self.checks((1, (("turn", 7, 0), ("turn", 7, 0), ("h", 0), ("turn", 2, 0))))[2:], (
            (("new", 1), ("tie", 0, 1), ("look", 0, 2, (), ()), ("flip", 1, (0,))), (2,),
        ))

    def test_cz_twice(self):
        self.same(self.checks((2, (("cz", 0, 1), ("cz", 1, 0))))[2], (("tie", 0, 1), ("tie", 0, 1)))
        self.same(self.checks((2, (("h", 0), ("cz", 0, 1), ("cz", 0, 1))))[2][4:], (("tie", 1, 2), ("tie", 1, 2)))

    def test_swap_ahead_of_h_and_behind_it(self):
        first = ("new", 2), ("tie", 1, 2), ("look", 1, 0, (), ()), ("flip", 2, (1,))
        self.same(self.checks((2, (("swap", 0, 1), ("h", 0)))), ((0, 1), (2, 0), first, (0, 0)))
        self.same(self.checks((2, (("h", 1), ("swap", 0, 1)))), ((0, 1), (2, 0), first, (0, 0)))

    def test_cx_is_h_cz_h(self):
        for ahead in ((), (("turn", 3, 0),), (("h", 1), ("turn", 1, 1))):
            for j, k in ((0, 1), (1, 0), (2, 0)):
                cx = compiled((3, ahead + (("cx", j, k),)))
                self.same(compiled((3, ahead + (("h", k), ("cz", j, k), ("h", k)))), cx)

    def test_branches(self):
        chance = random.Random(44)
        for k in range(40):
            circuit = some_circuit(chance, 1 + k % 3, 6)
            while h_number(circuit) > 4:
                circuit = some_circuit(chance, 1 + k % 3, 6)
            program = compiled(circuit)
            many = len(looks_of(program))
            self.assertEqual(many, h_number(circuit))
            wanted = scaled(plain_table(circuit), -many)
            self.same(branches_of(program), (wanted,) * 2 ** many)
            self.assertTrue(is_right(program))
            self.same(mapped(program), plain_table(circuit))
            # Right whatever turns stand at the looks.
            self.assertTrue(right_at(program, tuple(chance.randint(0, 7) for _ in range(many))))

    def test_plan_of_the_account(self):
        chance = random.Random(45)
        for k in range(30):
            circuit = some_circuit(chance, k % 5, 12)
            self.same(account_of(compiled(circuit))[:2], circuit_plan(circuit))


class PlainProgramTest(StrictCase):
    def test_some(self):
        self.same(plain_program((EMPTY, ())), ((), (), (), ()))
        self.same(
            plain_program((ROW, (1, 2, 3))),
            (
                (0,), (2,),
                (
                    ("new", 1), ("new", 2), ("tie", 0, 1), ("tie", 1, 2), ("look", 0, 1, (), ()), ("look", 1, 2, (), ()),
                ),
                (5,),
            ),
        )
        self.same(plain_program((PLUS, (1, 0)))[2], (("new", 0), ("new", 1), ("tie", 0, 1), ("look", 0, 1, (), ())))
        both = (((3, 8), ((3, 8),), (8, 3), (8,)), (6, 4))
        self.same(plain_program(both), ((8, 3), (8,), (("tie", 3, 8), ("look", 3, 6, (), ())), (4,)))
        # Dots in and out, without looks.
        same = (((3, 8), ((3, 8),), (8, 3), (3, 8)), (1, 4))
        self.same(plain_program(same), ((8, 3), (3, 8), (("tie", 3, 8),), (7, 4)))
        self.same(plain_program((((3,), (), (3,), (3,)), (0,))), ((3,), (3,), (), (0,)))

    def test_plans(self):
        chance = random.Random(46)
        for plan in some_plans(60, 46, 6) + [with_angles(chance, some_web(chance, 30, 10000, 12, 12))]:
            web, angles = plan
            ins, outs, commands, turns = plain_program(plan)
            self.assertTrue(is_program((ins, outs, commands, turns)))
            self.same((ins, outs), web[2:])
            by_dot = dict(zip(web[0], angles))
            self.same(turns, tuple((8 - by_dot[out]) % 8 for out in outs))
            wanted = [("new", dot) for dot in made_of(web)] + [("tie", *tie) for tie in web[1]]
            wanted += [("look", dot, by_dot[dot], (), ()) for dot in looked_of(web)]
            self.same(commands, tuple(wanted))

    def test_branches(self):
        for plan in some_plans(40, 47) + [(ROW, (1, 2, 3)), (TRI, (2, 2, 1)), (EMPTY, ())]:
            program = plain_program(plan)
            looked = looked_of(plan[0])
            for outcomes in all_bits(len(looked)):
                shown = tuple(dot for dot, bit in zip(looked, outcomes) if bit)
                wanted = scaled(map_of(more_angle(plan, shown, 4)), -len(looked))
                self.same(branch_of(program, outcomes), wanted)
