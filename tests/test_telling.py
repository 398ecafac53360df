"""[9], [11], [62], [63], [66]: telling lots, what they tell, kinds of webs, layers."""

import itertools
import random

from lookundone.branches import branches_of, chance_of
from lookundone.circuitplans import circuit_plan
from lookundone.errors import InvalidPaper
from lookundone.layers import layers_of
from lookundone.likeness import number_of, square_of
from lookundone.oddlots import odd_lot, ties_within
from lookundone.plainprograms import plain_program
from lookundone.plankinds import plan_with
from lookundone.plansums import sums_of
from lookundone.products import added
from lookundone.scaling import negative, scaled
from lookundone.shutlots import has_flow
from lookundone.tables import entry_at, nought_table, one_table
from lookundone.telling import kind_of, telling_lots
from lookundone.tellinglots import is_idle, lets_telling, told_angles, told_sign
from lookundone.webkinds import looked_of, made_of
from tests.common import ANY_VALUES, EMPTY, FAIR, LINE, PLUS, ROW, SEEN, TRI, StrictCase
from tests.flow_oracles import all_flows, layers_plainly, odd_plainly, telling_plainly
from tests.oracles import all_lots
from tests.program_oracles import all_bits
from tests.some_webs import some_web, some_webs, wide_web, with_angles
from tests.test_circuits import some_circuit

LONE = ((0,), (), (), ())
WEBS = [ROW, TRI, PLUS, LINE, EMPTY, SEEN, FAIR, LONE] + some_webs(120, 62, 6)
UNITS = tuple(tuple(sign * (k == place) for k in range(4)) for sign in (1, -1) for place in range(4))


def has_flow_plainly(web):
    return next(all_flows(web), None) is not None


class TellingLotsTest(StrictCase):
    def test_each_lot_of_small_webs(self):
        done = 0
        for web in WEBS:
            telling = telling_plainly(web)
            for lot in all_lots(web[0]):
                if lot in telling:
                    self.same(lets_telling(web, lot), len(lot))
                    done += 1
                    continue
                word, at = "lot", -1
                if lot and not set(lot) & set(web[3]):
                    odd = odd_plainly(web, lot)
                    word, at = "even", min(dot for dot in odd if dot not in lot and dot not in web[2])
                self.raises(InvalidPaper, {"word": word, "at": at}, lets_telling, web, lot)
                self.refuses("lot", is_idle, web, lot)
                self.refuses("lot", told_angles, web, lot)
                self.refuses("lot", told_sign, web, lot)
        self.assertGreater(done, 100)

    def test_no_lots(self):
        for web in (TRI, SEEN, EMPTY, LONE):
            for thing in ANY_VALUES + (
                (), [0], [1], [0, 1], (True,), (False,), (0, True), (1, 0), (0, 0), (0, 9), (10000,), (-1,), ("0",), ((0,),), (2,),
            ):
                looked = [dot for dot in web[0] if dot not in web[3]]
                if repr(thing) not in map(repr, list(all_lots(looked))[1:]):
                    self.raises(InvalidPaper, {"word": "lot", "at": -1}, lets_telling, web, thing)
                    for call in (is_idle, told_angles, told_sign):
                        self.refuses("lot", call, web, thing)

    def test_the_first_made_dot_that_is_not_even_into_it(self):
        # 0 is an in, so it is not asked; 2 and 3 are not even into (1,), an out as well as a looked dot.
        web = ((0, 1, 2, 3, 4), ((0, 1), (1, 2), (1, 3), (1, 4)), (0,), (2,))
        self.raises(InvalidPaper, {"word": "even", "at": 2}, lets_telling, web, (1,))
        self.raises(InvalidPaper, {"word": "even", "at": 2}, lets_telling, web, (1, 3))
        self.raises(InvalidPaper, {"word": "even", "at": 1}, lets_telling, web, (0,))
        self.raises(InvalidPaper, {"word": "even", "at": 1}, lets_telling, web, (3,))
        self.same(lets_telling(web, (3, 4)), 2)
        self.same(lets_telling(web, (0, 3)), 2)
        self.same(lets_telling(LONE, (0,)), 1)

    def test_what_they_tell(self):
        for web in WEBS:
            for lot in telling_plainly(web):
                odd = odd_plainly(web, lot)
                self.assertIs(is_idle(web, lot), not any(dot in odd or dot in lot for dot in web[2]))
                self.same(told_angles(web, lot), tuple((dot, 2 * (dot in odd)) for dot in lot))
                if any(dot in lot for dot in web[2]):
                    self.refuses("lot", told_sign, web, lot)
                    continue
                half = len([dot for dot in lot if dot in odd])
                self.assertEqual(half % 2, 0)
                bit = (ties_within(web, lot) + half // 2) % 2
                self.same(told_sign(web, lot), (tuple(sorted(dot for dot in odd if dot in web[2])), bit))

    def test_some_signs(self):
        # A triangle: three ties within, no dot in the odd lot. A tie: both are, so its half counts.
        triangle = ((0, 1, 2), ((0, 1), (0, 2), (1, 2)), (), ())
        self.same(told_sign(triangle, (0, 1, 2)), ((), 1))
        self.same(told_angles(triangle, (0, 1, 2)), ((0, 0), (1, 0), (2, 0)))
        tie = ((0, 1), ((0, 1),), (), ())
        self.same(told_sign(tie, (0, 1)), ((), 0))
        self.same(told_angles(tie, (0, 1)), ((0, 2), (1, 2)))
        both = ((0, 1, 2, 3), ((0, 1), (2, 3)), (), ())
        self.same(told_sign(both, (0, 1, 2, 3)), ((), 0))
        star = ((0, 1, 2, 3), ((0, 1), (0, 2), (0, 3)), (), ())
        self.same(told_sign(star, (0, 1, 2, 3)), ((), 1))
        self.same(told_sign(LONE, (0,)), ((), 0))
        self.same(told_sign(((0, 1, 2), ((0, 1), (1, 2)), (2, 0), ()), (1,)), ((0, 2), 0))
        self.refuses("lot", told_sign, TRI, (0, 1))

    def test_wide_webs(self):
        web = wide_web(63)
        far = tuple(dot for dot in looked_of(web) if dot not in web[2])
        # With each dot in it, nothing is outside but the outs and the ins.
        loose = (web[0], tuple(tie for tie in web[1] if not set(tie) & set(web[3])), *web[2:])
        self.same(lets_telling(loose, far), len(far))
        self.same(lets_telling(loose, looked_of(web)), len(looked_of(web)))
        self.same(len(told_angles(loose, far)), len(far))
        self.assertIs(is_idle(loose, looked_of(web)), all(dot in web[3] for dot in web[2]))
        self.same(told_sign(loose, far)[0], tuple(dot for dot in odd_lot(loose, far) if dot in web[2]))


class TellingTest(StrictCase):
    def test_telling_lots(self):
        for web in WEBS:
            self.same(telling_lots(web), tuple(telling_plainly(web)))
        self.same(telling_lots(EMPTY), ())
        self.same(telling_lots(LONE), ((0,),))
        self.same(telling_lots(((0, 1, 2), (), (), ())), ((0,), (0, 1), (0, 1, 2), (0, 2), (1,), (1, 2), (2,)))

    def test_nine_looked_dots(self):
        chance = random.Random(63)
        for k in range(12):
            outs = k % 5
            web = some_web(chance, 9 + outs, 9999, k % 4, outs, chance.choice((0.1, 0.3, 0.6)))
            self.assertEqual(len(looked_of(web)), 9)
            self.same(telling_lots(web), tuple(telling_plainly(web)))

    def test_kinds(self):
        met = {}
        for web in WEBS:
            lots = telling_plainly(web)
            if has_flow_plainly(web):
                wanted = "flow"
                self.assertEqual(lots, [])
            elif not lots:
                wanted = "fair"
            else:
                ins = set(web[2])
                idle = all(not ins & set(lot) and not ins & odd_plainly(web, lot) for lot in lots)
                wanted = "idle" if idle else "telling"
            self.same(kind_of(web), wanted, web)
            met[wanted] = met.get(wanted, 0) + 1
            # With as many ins as outs or more it is a flow or a telling lot, with more ins never a flow.
            if len(web[2]) >= len(web[3]):
                self.assertNotEqual(wanted, "fair")
            if len(web[2]) > len(web[3]):
                self.assertNotEqual(wanted, "flow")
        self.assertEqual(set(met), {"flow", "fair", "idle", "telling"})

    def test_some_kinds(self):
        for web, wanted in (
            (EMPTY, "flow"), (ROW, "flow"), (LINE, "flow"), (PLUS, "flow"), (TRI, "telling"), (SEEN, "telling"), (FAIR, "fair"),
            (LONE, "idle"), (((0,), (), (0,), ()), "telling"), (((0,), (), (), (0,)), "flow"), (((0,), (), (0,), (0,)), "flow"),
            (((0, 1), ((0, 1),), (), ()), "idle"), (((0, 1), ((0, 1),), (0,), ()), "telling"),
            (((0, 1, 2), ((0, 1),), (0,), (1, 2)), "flow"), (((0, 1, 2), ((0, 1), (0, 2)), (), (1, 2)), "flow"),
            (((0, 1, 2), (), (), (1, 2)), "idle"), (((3, 5), (), (5, 3), (3, 5)), "flow"),
        ):
            self.same(kind_of(web), wanted, web)

    def test_kinds_of_circuits(self):
        chance = random.Random(64)
        for k in range(30):
            circuit = some_circuit(chance, k % 5, 8)
            web = circuit_plan(circuit)[0]
            if len(looked_of(web)) <= 9:
                self.same(kind_of(web), "flow")


class LayersTest(StrictCase):
    def test_small_webs(self):
        for web in WEBS + some_webs(60, 66, 7):
            found = layers_of(web)
            self.same(found, layers_plainly(web))
            self.assertIs(has_flow(web), found[-1] == web[0])
            if len(looked_of(web)) <= 4:
                self.assertEqual(has_flow(web), has_flow_plainly(web))

    def test_some(self):
        self.same(layers_of(EMPTY), ((),))
        self.same(layers_of(((7, 9), (), (), (9, 7))), ((7, 9),))
        self.same(layers_of(ROW), ((2,), (1, 2), (0, 1, 2)))
        self.same(layers_of(TRI), ((2,),))
        self.same(layers_of(LONE), ((),))

    def test_wide_webs(self):
        chance = random.Random(65)
        gates = []
        while 20 + sum(gate[0] == "h" for gate in gates) < 60:
            j, k = chance.sample(range(20), 2)
            gates.append(chance.choice((("h", k), ("cz", j, k))))
        web = circuit_plan((20, tuple(gates)))[0]
        found = layers_of(web)
        self.same(found[-1], web[0])
        self.assertTrue(has_flow(web))
        more = (web[0], web[1], web[2] + (made_of(web)[0],), web[3])
        self.assertFalse(has_flow(more))


class GuaranteesTest(StrictCase):
    def setUp(self):
        self.chance = random.Random(11)

    def told_plan(self, web, lot):
        """The plan with the angles that a telling lot needs, and any others elsewhere."""
        angles = {dot: self.chance.randint(0, 7) for dot in web[0]}
        angles.update(told_angles(web, lot))
        return plan_with(web, angles)

    def small_webs(self):
        return [web for web in WEBS if len(web[0]) <= 5 and len(looked_of(web)) <= 4]

    def test_without_telling_lots(self):
        # G1: then for all angles the square of the sums is the table one times 2 to the number of made dots.
        met = set()
        for web in self.small_webs() + [FAIR]:
            ins, made = len(web[2]), len(made_of(web))
            one = scaled(one_table(ins), 2 * made)
            plans = [with_angles(self.chance, web) for _ in range(4)]
            if kind_of(web) in ("flow", "fair"):
                looks = len(looked_of(web))
                for plan in plans:
                    self.same(square_of(sums_of(plan)), one)
                    for outcomes in all_bits(looks):
                        chance = chance_of(plain_program(plan), outcomes)
                        self.same(chance, scaled(one_table(ins), -2 * looks))
            else:
                # Some telling lot has angles at which it is not so.
                lots = telling_lots(web)
                squares = [square_of(sums_of(self.told_plan(web, lot))) for lot in lots for _ in range(3)]
                self.assertTrue(any(square != one for square in squares), web)
            met.add(kind_of(web))
        self.assertEqual(met, {"flow", "fair", "idle", "telling"})

    def test_what_a_telling_lot_shows(self):
        # G1: the squares of all branches, those with an odd sum at the lot taken off.
        done = 0
        for web in self.small_webs():
            ins = web[2]
            for lot in telling_lots(web):
                program = plain_program(self.told_plan(web, lot))
                total = nought_table(len(ins), len(ins))
                for outcomes, branch in zip(all_bits(len(looked_of(web))), branches_of(program)):
                    shown = sum(bit for dot, bit in zip(looked_of(web), outcomes) if dot in lot)
                    square = square_of(branch)
                    total = added(total, negative(square) if shown % 2 else square)
                apart = sum(1 << k for k, dot in enumerate(ins) if dot in lot)
                for y, x in itertools.product(range(2 ** len(ins)), repeat=2):
                    exact, power = entry_at(total, y, x)
                    if y ^ x == apart:
                        self.assertIn(exact, UNITS)
                        self.assertEqual(power, 0)
                    else:
                        self.same((exact, power), ((0, 0, 0, 0), 0))
                done += 1
        self.assertGreater(done, 50)

    def test_idle_lots(self):
        # G2: all are idle exactly if for all angles the squares of the branches are numbers.
        met = set()
        for web in self.small_webs():
            lots = telling_lots(web)
            if not lots:
                continue
            is_all_idle = all(is_idle(web, lot) for lot in lots)
            self.assertEqual(kind_of(web) == "idle", is_all_idle)
            met.add(is_all_idle)
            if is_all_idle:
                for _ in range(3):
                    for branch in branches_of(plain_program(with_angles(self.chance, web))):
                        self.assertIsNotNone(number_of(square_of(branch)))
            else:
                squares = [
                    square_of(branch)
                    for lot in lots if not is_idle(web, lot)
                    for branch in branches_of(plain_program(self.told_plan(web, lot)))
                ]
                self.assertTrue(any(number_of(square) is None for square in squares), web)
        self.assertEqual(met, {True, False})

    def test_outcomes_that_come(self):
        # [68]: by told_angles only outcomes come whose sum at the lot is bit and the bits of the start at ins.
        done = 0
        for web in self.small_webs():
            for lot in telling_lots(web):
                if any(dot in lot for dot in web[2]):
                    continue
                ins, bit = told_sign(web, lot)
                plan = self.told_plan(web, lot)
                program = plain_program(plan)
                for outcomes, branch in zip(all_bits(len(looked_of(web))), branches_of(program)):
                    shown = sum(one for dot, one in zip(looked_of(web), outcomes) if dot in lot) % 2
                    square = square_of(branch)
                    for x in range(2 ** len(web[2])):
                        wanted = (bit + sum(x >> k & 1 for k, dot in enumerate(web[2]) if dot in ins)) % 2
                        if shown != wanted:
                            self.same(entry_at(square, x, x), ((0, 0, 0, 0), 0))
                            done += 1
        self.assertGreater(done, 100)
