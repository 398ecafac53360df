"""[25], [26], [28]: circuits, their tables, circuits of circuits."""

import itertools
import random

from lookundone.circuitchanges import beside_circuits, chained_circuits, h_number, inverse, odd_turns
from lookundone.gatekinds import ccz_gates, circuit_of, is_circuit
from lookundone.gatetables import gate_table, plain_table
from lookundone.likeness import square_of
from lookundone.products import chained, mirrored, side_by_side
from lookundone.scaling import scaled
from lookundone.tables import is_table, one_table, table_of
from tests.common import ANY_VALUES, H, StrictCase, wrong_places
from tests.oracles import unit_parts

NOUGHT = (0, 0, 0, 0)
MANY = (2, (("h", 0), ("turn", 3, 1), ("cz", 0, 1), ("cx", 1, 0), ("swap", 0, 1)))


def all_gates(wires):
    """All gates of a circuit with so many wires."""
    found = [("h", k) for k in range(wires)]
    found += [("turn", turn, k) for turn in range(1, 8) for k in range(wires)]
    pairs = itertools.permutations(range(wires), 2)
    return found + [(word, j, k) for j, k in pairs for word in ("cz", "cx", "swap")]


def some_circuit(chance, wires, many):
    gates = all_gates(wires)
    return wires, tuple(chance.choice(gates) for _ in range(many)) if gates else ()


def bit(row, k):
    return row >> k & 1


def entry(gate, y, x):
    """The entry of a gate's table at (y, x), as the document tells it, an h's times r."""
    word, *rest = gate
    if word == "h":
        k = rest[0]
        if y | 1 << k != x | 1 << k:
            return NOUGHT
        return (-1, 0, 0, 0) if bit(y, k) and bit(x, k) else (1, 0, 0, 0)
    if word == "turn":
        turn, k = rest
        return NOUGHT if y != x else unit_parts(turn) if bit(x, k) else (1, 0, 0, 0)
    j, k = rest
    if word == "cz":
        return NOUGHT if y != x else (-1, 0, 0, 0) if bit(x, j) and bit(x, k) else (1, 0, 0, 0)
    bits = [bit(x, place) for place in range(10)]
    if word == "cx":
        bits[k] ^= bits[j]
    else:
        bits[j], bits[k] = bits[k], bits[j]
    return (int(y == sum(one << place for place, one in enumerate(bits))), 0, 0, 0)


class CircuitKindsTest(StrictCase):
    def test_circuits(self):
        for circuit in ((0, ()), (6, ()), (1, (("h", 0),)), MANY, (6, (("cx", 5, 0), ("turn", 7, 5)))):
            self.assertIs(is_circuit(circuit), True)
            self.same(circuit_of(*circuit), circuit)
        for wires in range(7):
            for gate in all_gates(wires):
                self.assertIs(is_circuit((wires, (gate,))), True)
                self.same(circuit_of(wires, (gate,)), (wires, (gate,)))

    def test_no_circuits(self):
        for thing in (
            (7, ()), (-1, ()), (True, ()), (False, ()), ("1", ()), (None, ()), (1,), (1, (), ()), [1, ()], (1, []), (1, None),
            (1, ("h", 0)), (0, (("h", 0),)), (1, (("h", 1),)), (1, (("h", -1),)), (1, (("h", False),)), (2, (("h", True),)),
            (1, (("h",),)), (1, (("h", 0, 0),)), (1, (["h", 0],)), (1, (("x", 0),)), (1, (("turn", 0, 0),)),
            (1, (("turn", 8, 0),)), (1, (("turn", -1, 0),)), (1, (("turn", True, 0),)), (1, (("turn", 1, 1),)),
            (1, (("turn", 1, False),)), (1, (("turn", 1),)), (2, (("cz", 0, 0),)), (2, (("cz", 0, 2),)),
            (2, (("cz", 2, 0),)), (2, (("cz", 0, True),)), (2, (("cz", False, 1),)), (2, (("cz", 0),)), (2, (("cz", -1, 0),)),
            (3, (("ccz", 0, 1, 2),)), (2, (("z", 0, 1),)), (2, ((None, 0, 1),)), (2, ((["cz"], 0, 1),)),
            (2, ((("cz",), 0, 1),)), (2, (("cx", 1, 1),)), (2, (("swap", 1, 1),)), (2, (("swap", 0, 2),)),
            (2, (("cx", 0, 2),)), (2, (("h", 0), None)), (2, (("h", 0), ())),
        ):
            self.assertIs(is_circuit(thing), False, thing)
        for thing in ANY_VALUES:
            wanted = repr(thing) == repr((1, (("h", 0),)))
            self.assertIs(is_circuit(thing), wanted, thing)

    def test_one_wrong_place(self):
        others = (None, True, False, "", "y", -1, 8, (), [])
        shorter = [repr((2, MANY[1][:k] + MANY[1][k + 1:])) for k in range(5)] + [repr((2, ()))]
        for wrong in wrong_places(MANY, others):
            if repr(wrong) not in shorter:
                self.assertIs(is_circuit(wrong), False, wrong)

    def test_ccz_gates(self):
        for a, b, c in itertools.permutations(range(6), 3):
            self.same(ccz_gates(a, b, c), (
                ("turn", 1, a), ("turn", 1, b), ("turn", 1, c), ("cx", a, b), ("turn", 7, b), ("cx", c, b), ("turn", 1, b),
                ("cx", a, b), ("turn", 7, b), ("cx", c, b), ("cx", a, c), ("turn", 7, c), ("cx", a, c),
            ))
        for one, other in itertools.product(range(6), repeat=2):
            self.refuses("third", ccz_gates, one, other, one) if one != other else None
            self.refuses("third" if one != other else "other", ccz_gates, one, other, other)
            self.refuses("third" if one != other else "other", ccz_gates, one, other, 6)
            self.refuses("other", ccz_gates, one, one, 6)
            self.refuses("other", ccz_gates, one, 6, one)


class GateTablesTest(StrictCase):
    def test_each_gate_at_each_place(self):
        for wires in range(4):
            for gate in all_gates(wires):
                wide = range(2 ** wires)
                rows = tuple(tuple(entry(gate, y, x) for x in wide) for y in wide)
                found = gate_table(wires, gate)
                self.assertTrue(is_table(found))
                self.same(found, table_of(wires, wires, int(gate[0] == "h"), rows), gate)
                self.same(plain_table((wires, (gate,))), found)

    def test_some_tables(self):
        self.same(gate_table(1, ("h", 0)), H)
        self.same(gate_table(1, ("turn", 3, 0))[3], (((1, 0, 0, 0), NOUGHT), (NOUGHT, (0, 0, 0, 1))))
        # cx of wire 0 onto wire 1 leads the row 1 to the row 3.
        self.same([row.index((1, 0, 0, 0)) for row in gate_table(2, ("cx", 0, 1))[3]][3], 1)
        self.same([row.index((1, 0, 0, 0)) for row in gate_table(2, ("cx", 1, 0))[3]][3], 2)

    def test_no_gate_of_so_many_wires(self):
        for wires in range(6):
            for gate in all_gates(6):
                if max(gate[1:] if gate[0] != "turn" else gate[2:]) >= wires:
                    self.refuses("gate", gate_table, wires, gate)

    def test_plain_tables(self):
        for wires in range(7):
            self.same(plain_table((wires, ())), one_table(wires))
        chance = random.Random(25)
        for k in range(60):
            circuit = some_circuit(chance, k % 4, chance.randint(0, 9))
            table = one_table(circuit[0])
            for gate in circuit[1]:
                table = chained(table, gate_table(circuit[0], gate))
            self.same(plain_table(circuit), table)

    def test_sequence(self):
        self.same(plain_table((1, (("turn", 2, 0), ("h", 0)))), chained(gate_table(1, ("turn", 2, 0)), H))
        self.same(plain_table((1, (("turn", 2, 0), ("h", 0))))[3], (((1, 0, 0, 0), (0, 0, 1, 0)),
                                                                    ((1, 0, 0, 0), (0, 0, -1, 0))))

    def test_six_wires_and_eighty_gates(self):
        circuit = some_circuit(random.Random(6), 6, 40)
        back = inverse(circuit)
        self.same(plain_table(chained_circuits(circuit, back)), one_table(6))


class CircuitChangesTest(StrictCase):
    def test_inverse(self):
        self.same(inverse(MANY), (2, (("swap", 0, 1), ("cx", 1, 0), ("cz", 0, 1), ("turn", 5, 1), ("h", 0))))
        self.same(inverse((3, ())), (3, ()))
        for turn in range(1, 8):
            self.same(inverse((1, (("turn", turn, 0),))), (1, (("turn", 8 - turn, 0),)))

    def test_chained(self):
        first, second = (2, (("h", 0),)), (2, (("h", 1), ("cz", 0, 1)))
        self.same(chained_circuits(first, second), (2, (("h", 0), ("h", 1), ("cz", 0, 1))))
        self.same(chained_circuits((0, ()), (0, ())), (0, ()))
        for wires in (0, 1, 3, 6):
            self.refuses("second", chained_circuits, first, (wires, ()))

    def test_beside(self):
        self.same(beside_circuits(MANY, (2, ())), (4, MANY[1]))
        self.same(beside_circuits((3, (("h", 2),)), MANY), (5, (
            ("h", 2), ("h", 3), ("turn", 3, 4), ("cz", 3, 4), ("cx", 4, 3), ("swap", 3, 4),
        )))
        for low in range(7):
            for high in range(7):
                if low + high <= 6:
                    self.same(beside_circuits((low, ()), (high, ())), (low + high, ()))
                else:
                    self.refuses("high", beside_circuits, (low, ()), (high, ()))

    def test_numbers(self):
        self.same((odd_turns(MANY), h_number(MANY)), (1, 3))
        self.same((odd_turns((0, ())), h_number((0, ()))), (0, 0))
        for turn in range(1, 8):
            self.same(odd_turns((1, (("turn", turn, 0),) * 3)), 3 * (turn % 2))
        self.same(odd_turns((2, (("h", 1), ("cz", 0, 1), ("turn", 2, 1), ("swap", 1, 0)))), 0)
        self.same(h_number((2, (("cx", 0, 1), ("h", 1), ("cx", 1, 0), ("turn", 1, 1), ("cz", 0, 1), ("swap", 0, 1)))), 5)
        self.same((odd_turns((6, ccz_gates(0, 1, 2))), h_number((6, ccz_gates(0, 1, 2)))), (7, 12))

    def test_consequences(self):
        chance = random.Random(28)
        for k in range(40):
            wires = k % 4
            first, second = some_circuit(chance, wires, 6), some_circuit(chance, wires, 5)
            other = some_circuit(chance, chance.randrange(3), 4)
            table = plain_table(first)
            self.same(plain_table(inverse(first)), mirrored(table))
            self.same(plain_table(chained_circuits(first, second)), chained(table, plain_table(second)))
            self.same(plain_table(beside_circuits(first, other)), side_by_side(table, plain_table(other)))
            self.same(square_of(table), one_table(wires))
            self.same(inverse(inverse(first)), first)

    def test_the_table_of_ccz_gates(self):
        for wires, places in ((3, (0, 1, 2)), (3, (2, 0, 1)), (4, (3, 1, 0)), (5, (4, 2, 3))):
            rows = [list(row) for row in one_table(wires)[3]]
            for y in range(2 ** wires):
                if all(bit(y, place) for place in places):
                    rows[y][y] = (-1, 0, 0, 0)
            wanted = (wires, wires, 0, tuple(tuple(row) for row in rows))
            self.same(plain_table((wires, ccz_gates(*places))), wanted)
            self.same(scaled(plain_table((wires, ccz_gates(*places))), 0), wanted)
