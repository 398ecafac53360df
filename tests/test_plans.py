"""[5], [32] to [36]: plans, sums and maps, joined plans, plans of circuits, texts."""

import itertools
import random

from lookundone.alongsums import live_along, sums_along
from lookundone.circuitchanges import h_number
from lookundone.circuitplans import circuit_plan
from lookundone.errors import InvalidText
from lookundone.gatetables import plain_table
from lookundone.likeness import square_of
from lookundone.planjoins import beside_plans, chained_plans, renamed_plan, turned_plan
from lookundone.plankinds import angle_of, is_plan, more_angle, odd_angles, with_angle
from lookundone.plansums import map_of, sums_of
from lookundone.plantexts import plan_text, read_plan
from lookundone.products import chained, mirrored, side_by_side
from lookundone.scaling import scaled
from lookundone.tables import is_table, nought_table, one_table
from lookundone.webchanges import renamed_web, turned_web
from lookundone.webkinds import is_even, looked_of, made_of, near_of, web_of
from tests.common import ALL_SIGNS, ANY_VALUES, EMPTY, LINE, PLUS, ROW, TRI, StrictCase, wrong_places
from tests.oracles import all_lots, sums_by_lots
from tests.some_webs import some_plans, some_web, wide_web, with_angles
from tests.test_circuits import all_gates, some_circuit

PLANS = [
    (EMPTY, ()), (ROW, (1, 2, 3)), (TRI, (7, 0, 5)), (PLUS, (1, 0)), (LINE, (0, 4, 2, 6)), (((0,), (), (0,), (0,)), (3,)),
    (((7, 9), (), (9, 7), (7,)), (1, 2)), (((4,), (), (), ()), (5,)), (((1, 3), ((1, 3),), (), ()), (2, 3)),
] + some_plans(50, 32)


class PlanKindsTest(StrictCase):
    def test_plans(self):
        for plan in PLANS + [with_angles(random.Random(1), wide_web(9, 80, 25))]:
            self.assertIs(is_plan(plan), True)

    def test_no_plans(self):
        for thing in (
            (), (ROW,), (ROW, (0, 0, 0), ()), [ROW, (0, 0, 0)], (list(ROW), (0, 0, 0)), (ROW, [0, 0, 0]), (ROW, (0, 0)),
            (ROW, (0, 0, 0, 0)), (ROW, (0, 0, 8)), (ROW, (0, -1, 0)), (ROW, (0, True, 0)), (ROW, (0, None, 0)), (ROW, None),
            (ROW, 0), (EMPTY, (0,)), (EMPTY, []), (EMPTY, None), (None, ()), (ROW[:3], (0, 0, 0)), ROW, EMPTY,
        ):
            self.assertIs(is_plan(thing), False, thing)
        for thing in ANY_VALUES:
            self.assertIs(is_plan(thing), repr(thing) == repr((EMPTY, ())), thing)

    def test_one_wrong_place(self):
        dots, (low, high), ins, outs = ROW
        # These are webs as well: a tie, the in or the out need not be there.
        webs = [(dots, (low,), ins, outs), (dots, (high,), ins, outs), (dots, (), ins, outs)]
        webs += [(dots, (low, high), (), outs), (dots, (low, high), ins, ())]
        right = [repr((web, (1, 2, 3))) for web in webs]
        for wrong in wrong_places((ROW, (1, 2, 3)), (None, True, -1, 8, 10000, "", [])):
            self.assertIs(is_plan(wrong), repr(wrong) in right, wrong)

    def test_angles(self):
        for web, angles in PLANS:
            for k, dot in enumerate(web[0]):
                self.same(angle_of((web, angles), dot), angles[k])
                for turn in range(8):
                    self.same(with_angle((web, angles), dot, turn), (web, angles[:k] + (turn,) + angles[k + 1:]))
                for turn in (8, -1, True):
                    self.refuses("turn", with_angle, (web, angles), dot, turn)
            foreign = next(dot for dot in range(100) if dot not in web[0])
            self.refuses("dot", angle_of, (web, angles), foreign)
            self.refuses("dot", with_angle, (web, angles), foreign, 8)

    def test_more_angle(self):
        for web, angles in PLANS:
            for lot in all_lots(web[0]):
                for turn in (0, 1, 5, 7):
                    wanted = tuple((angle + turn * (dot in lot)) & 7 for dot, angle in zip(web[0], angles))
                    self.same(more_angle((web, angles), lot, turn), (web, wanted))
            foreign = next(dot for dot in range(100) if dot not in web[0])
            self.refuses("lot", more_angle, (web, angles), (foreign,), 8)
            self.refuses("turn", more_angle, (web, angles), (), 8)

    def test_odd_angles(self):
        for web, angles in PLANS:
            self.same(odd_angles((web, angles)), tuple(dot for dot, angle in zip(web[0], angles) if angle in (1, 3, 5, 7)))
        web = (tuple(range(8)), (), (), ())
        self.same(odd_angles((web, (0, 1, 2, 3, 4, 5, 6, 7))), (1, 3, 5, 7))


class SumsTest(StrictCase):
    def test_sums(self):
        for plan in PLANS:
            found = sums_of(plan)
            (_, _, ins, outs), _ = plan
            self.assertTrue(is_table(found))
            wanted = tuple(tuple(row) for row in sums_by_lots(plan))
            self.same(found, (len(outs), len(ins), 0, wanted))
            self.same(map_of(plan), scaled(found, -len(made_of(plan[0]))))

    def test_some_sums(self):
        self.same(sums_of((EMPTY, ())), one_table(0))
        self.same(map_of((EMPTY, ())), one_table(0))
        self.same(sums_of((((0,), (), (0,), (0,)), (3,))), (1, 1, 0, (((1, 0, 0, 0), (0,) * 4), ((0,) * 4, (0, -1, 0, 0)))))
        for turn in range(8):
            unit = [0] * 4
            unit[-turn % 4] = 1 if -turn % 8 < 4 else -1
            self.same(sums_of((((0,), (), (), (0,)), (turn,))), (1, 0, 0, (((1, 0, 0, 0),), (tuple(unit),))))
            unit[0] += 1
            self.same(sums_of((((0,), (), (), ()), (turn,))), (0, 0, 0, ((tuple(unit),),)))
        self.same(sums_of((((0, 1), ((0, 1),), (), ()), (0, 0))), (0, 0, 0, (((2, 0, 0, 0),),)))
        self.same(sums_of((((0, 1), (), (0, 1), (1, 0)), (0, 0)))[3][0b10], ((0,) * 4, (1, 0, 0, 0), (0,) * 4, (0,) * 4))

    def test_power_and_one_form(self):
        lone = (((0, 1), (), (), ()), (0, 0))
        self.same(sums_of(lone), (0, 0, 0, (((4, 0, 0, 0),),)))
        self.same(map_of(lone), (0, 0, 0, (((2, 0, 0, 0),),)))
        self.same(map_of((PLUS, (0, 0))), (1, 0, 0, (((1, 0, 0, 0),), ((0, 0, 0, 0),))))
        self.same(map_of((((0,), (), (), ()), (4,))), nought_table(0, 0))
        self.same(map_of((((0, 1), ((0, 1),), (0,), (1,)), (0, 0))),
                  (1, 1, 1, (((1, 0, 0, 0), (1, 0, 0, 0)), ((1, 0, 0, 0), (-1, 0, 0, 0)))))

    def test_eleven_dots(self):
        chance = random.Random(11)
        for ins, outs in ((3, 3), (0, 6), (6, 0)):
            plan = with_angles(chance, some_web(chance, 11, 9999, ins, outs, 0.4))
            found = sums_of(plan)
            self.same(found[:3], (outs, ins, 0))
            self.same(sums_along(plan, plan[0][0]), found)
            self.same(sums_along(plan, tuple(chance.sample(plan[0][0], 11))), found)

    def test_not_changed_by_names(self):
        chance = random.Random(36)
        for plan in PLANS:
            names = tuple(chance.sample(range(10000), len(plan[0][0])))
            self.same(sums_of(renamed_plan(plan, names)), sums_of(plan))
            self.same(sums_along(renamed_plan(plan, names), names), sums_of(plan))


class AlongTest(StrictCase):
    def live(self, web, dots):
        """How many dots are not done at each place, asked dot by dot."""
        found = []
        for place in range(len(dots)):
            here = dots[:place + 1]
            done = [
                dot for dot in here
                if dot not in web[2] and dot not in web[3] and all(near in here for near in near_of(web, dot))
            ]
            found.append(len(here) - len(done))
        return tuple(found)

    def test_each_sequence_of_small_plans(self):
        for plan in PLANS:
            if len(plan[0][0]) <= 4:
                wanted = sums_of(plan)
                for dots in itertools.permutations(plan[0][0]):
                    self.same(sums_along(plan, dots), wanted)
                    self.same(live_along(plan[0], dots), self.live(plan[0], dots))

    def test_some_sequences(self):
        chance = random.Random(33)
        for plan in PLANS:
            for _ in range(5):
                dots = tuple(chance.sample(plan[0][0], len(plan[0][0])))
                self.same(sums_along(plan, dots), sums_of(plan))
                self.same(live_along(plan[0], dots), self.live(plan[0], dots))

    def test_live(self):
        self.same(live_along(ROW, (0, 1, 2)), (1, 2, 2))
        self.same(live_along(LINE, (0, 1, 2, 3)), (1, 2, 2, 2))
        self.same(live_along(LINE, (1, 2, 0, 3)), (1, 2, 2, 2))
        self.same(live_along(EMPTY, ()), ())
        self.same(live_along(((0, 1, 2), ((0, 1),), (), ()), (2, 0, 1)), (0, 1, 0))
        self.same(live_along(((0, 1), (), (0,), (0,)), (0, 1)), (1, 1))
        star = ((0, 1, 2, 3), ((0, 1), (0, 2), (0, 3)), (), ())
        self.same(live_along(star, (1, 2, 3, 0)), (1, 2, 3, 0))
        self.same(live_along(star, (0, 1, 2, 3)), (1, 1, 1, 0))

    def test_twenty_dots(self):
        chance = random.Random(20)
        for many, ins, outs in ((20, 1, 1), (20, 2, 3), (18, 0, 1), (20, 1, 0)):
            # A row of dots, with a few more ties between dots that are close to each other.
            pairs = [(k, k + 1) for k in range(many - 1)] + [(k, k + 2) for k in range(0, many - 2, 3)]
            web = web_of(tuple(range(many)), tuple(pairs), tuple(range(ins)), tuple(range(many - outs, many)))
            self.assertLessEqual(max(live_along(web, web[0])), 8)
            plan = with_angles(chance, web)
            found = sums_along(plan, web[0])
            self.same(found[:3], (outs, ins, 0))
            self.same(sums_along(plan, web[0][::-1]), found)
            names = tuple(chance.sample(range(10000), many))
            self.same(sums_along(renamed_plan(plan, names), names), found)

    def test_twenty_dots_are_two_times_ten(self):
        chance = random.Random(21)
        for _ in range(4):
            first = with_angles(chance, (tuple(range(10)), tuple((k, k + 1) for k in range(9)), (0,), (9,)))
            second = with_angles(chance, (tuple(range(11)), tuple((k, k + 1) for k in range(10)), (0,), (10,)))
            plan = chained_plans(first, second)
            self.same(len(plan[0][0]), 20)
            self.same(sums_along(plan, plan[0][0]), chained(sums_of(first), sums_of(second)))
            self.same(sums_along(plan, plan[0][0][::-1]), chained(sums_of(first), sums_of(second)))

    def test_dots_that_are_refused(self):
        for web, angles in PLANS:
            dots = web[0]
            foreign = next(dot for dot in range(100) if dot not in dots)
            wrong = [list(dots), dots + (foreign,), dots + (10000,), None, True, 0, ""]
            if dots:
                wrong += [dots[1:], dots + dots[:1], dots[:-1] + (foreign,), dots[:-1] + ("0",), dots[:-1] + (None,)]
            if len(dots) > 1:
                wrong += [dots[:-1] + dots[:1]]
            if 1 in dots:
                wrong += [tuple(True if dot == 1 else dot for dot in dots)]
            for thing in wrong:
                self.refuses("dots", sums_along, (web, angles), thing)
                self.refuses("dots", live_along, web, thing)


class JoinsTest(StrictCase):
    def test_numbers_of_the_new_dots(self):
        first = (((3, 8), ((3, 8),), (3,), (8, 3)), (1, 2))
        second = (((0, 5, 6, 9), ((0, 5), (5, 6), (6, 9)), (6, 5), (0, 9, 5)), (3, 4, 5, 6))
        # 6 becomes 8, 5 becomes 3, 0 and 9 become 9 and 10; the tie of 3 and 8 is in both.
        self.same(chained_plans(first, second), (
            ((3, 8, 9, 10), ((3, 9), (8, 10)), (3,), (9, 10, 3)), (5, 7, 3, 6),
        ))

    def test_a_tie_that_both_have_goes(self):
        both = (((0, 1), ((0, 1),), (0, 1), (0, 1)), (5, 6))
        self.same(chained_plans(both, both), (((0, 1), (), (0, 1), (0, 1)), (2, 4)))
        none = (((0, 1), (), (0, 1), (1, 0)), (0, 0))
        self.same(chained_plans(none, both), (((0, 1), ((0, 1),), (0, 1), (1, 0)), (6, 5)))
        self.same(chained_plans(both, none), (((0, 1), ((0, 1),), (0, 1), (1, 0)), (5, 6)))

    def test_without_dots(self):
        self.same(chained_plans((EMPTY, ()), (EMPTY, ())), (EMPTY, ()))
        plan = (((4, 7), ((4, 7),), (), (7,)), (1, 2))
        self.same(chained_plans((EMPTY, ()), plan), (((0, 1), ((0, 1),), (), (1,)), (1, 2)))
        self.same(beside_plans((EMPTY, ()), plan), (((0, 1), ((0, 1),), (), (1,)), (1, 2)))
        self.same(beside_plans(plan, (EMPTY, ())), plan)
        self.refuses("second", chained_plans, plan, (EMPTY, ()))
        closed = (((4, 7), ((4, 7),), (7,), ()), (1, 2))
        self.same(chained_plans(closed, (EMPTY, ())), closed)
        self.same(chained_plans(closed, plan), (((4, 7, 8, 9), ((4, 7), (8, 9)), (7,), (9,)), (1, 2, 1, 2)))

    def test_the_wrong_number_of_ins(self):
        for first, second in itertools.product(PLANS[:20], repeat=2):
            if len(first[0][3]) == len(second[0][2]):
                self.assertIs(is_plan(chained_plans(first, second)), True)
            else:
                self.refuses("second", chained_plans, first, second)

    def test_chained_maps(self):
        for first, second in itertools.product(PLANS, repeat=2):
            if len(first[0][3]) == len(second[0][2]) and len(first[0][0]) + len(second[0][0]) <= 8:
                plan = chained_plans(first, second)
                self.assertIs(is_plan(plan), True)
                self.same(sums_of(plan), chained(sums_of(first), sums_of(second)))
                self.same(map_of(plan), chained(map_of(first), map_of(second)))

    def test_three_chained_either_way_round(self):
        chance = random.Random(34)
        count = 0
        while count < 40:
            plans = [with_angles(chance, some_web(chance, chance.randint(2, 5), 20, 2, 2)) for _ in range(3)]
            one = chained_plans(chained_plans(plans[0], plans[1]), plans[2])
            other = chained_plans(plans[0], chained_plans(plans[1], plans[2]))
            self.same(one, other)
            count += 1

    def test_beside(self):
        self.same(beside_plans((PLUS, (1, 2)), (ROW, (3, 4, 5))), (
            ((0, 1, 2, 3, 4), ((0, 1), (2, 3), (3, 4)), (2,), (1, 4)), (1, 2, 3, 4, 5),
        ))
        high = (((2, 50), ((2, 50),), (50, 2), (2,)), (6, 7))
        self.same(beside_plans((((9,), (), (9,), (9,)), (1,)), high), (
            ((9, 10, 11), ((10, 11),), (9, 11, 10), (9, 10)), (1, 6, 7),
        ))
        for low, high in itertools.product(PLANS[:25], repeat=2):
            if len(low[0][0]) + len(high[0][0]) <= 7:
                plan = beside_plans(low, high)
                self.assertIs(is_plan(plan), True)
                self.same(sums_of(plan), side_by_side(sums_of(low), sums_of(high)))
                self.same(map_of(plan), side_by_side(map_of(low), map_of(high)))

    def test_turned(self):
        self.same(turned_plan((PLUS, (1, 0))), (((0, 1), ((0, 1),), (1,), ()), (7, 0)))
        for plan in PLANS:
            found = turned_plan(plan)
            self.same(found, (turned_web(plan[0]), tuple((8 - angle) & 7 for angle in plan[1])))
            self.same(turned_plan(found), plan)
            self.same(sums_of(found), mirrored(sums_of(plan)))

    def test_renamed(self):
        self.same(renamed_plan((ROW, (1, 2, 3)), (5, 9, 1)), (((1, 5, 9), ((1, 9), (5, 9)), (5,), (1,)), (3, 1, 2)))
        chance = random.Random(35)
        for plan in PLANS:
            names = tuple(chance.sample(range(10000), len(plan[0][0])))
            found = renamed_plan(plan, names)
            self.same(found[0], renamed_web(plan[0], names))
            for dot, name in zip(plan[0][0], names):
                self.same(angle_of(found, name), angle_of(plan, dot))

    def test_the_second_one_is_no_plan(self):
        for thing in ANY_VALUES + (ROW, (ROW, (0, 0)), (ROW, (0, 0, True)), [ROW, (0, 0, 0)], (ROW, [0, 0, 0])):
            self.refuses("second", chained_plans, (ROW, (0, 0, 0)), thing)
            if repr(thing) != repr((EMPTY, ())):
                self.refuses("high", beside_plans, (ROW, (0, 0, 0)), thing)


class CircuitPlansTest(StrictCase):
    def test_each_gate(self):
        self.same(circuit_plan((0, ())), (EMPTY, ()))
        self.same(circuit_plan((2, ())), (((0, 1), (), (0, 1), (0, 1)), (0, 0)))
        self.same(circuit_plan((2, (("h", 1),))), (((0, 1, 2), ((1, 2),), (0, 1), (0, 2)), (0, 0, 0)))
        self.same(circuit_plan((2, (("turn", 3, 1),))), (((0, 1), (), (0, 1), (0, 1)), (0, 5)))
        self.same(circuit_plan((2, (("cz", 1, 0),))), (((0, 1), ((0, 1),), (0, 1), (0, 1)), (0, 0)))
        self.same(circuit_plan((2, (("swap", 1, 0),))), (((0, 1), (), (0, 1), (1, 0)), (0, 0)))
        self.same(circuit_plan((2, (("cx", 0, 1),))), (
            ((0, 1, 2, 3), ((0, 2), (1, 2), (2, 3)), (0, 1), (0, 3)), (0, 0, 0, 0),
        ))

    def test_cx_is_h_cz_h(self):
        for j, k in itertools.permutations(range(3), 2):
            around = (("turn", 3, j), ("turn", 1, k), ("h", j))
            self.same(
                circuit_plan((3, (*around, ("cx", j, k), *around))),
                circuit_plan((3, (*around, ("h", k), ("cz", j, k), ("h", k), *around))),
            )

    def test_swaps_dots_and_turns(self):
        self.same(circuit_plan((2, (("turn", 1, 0), ("swap", 0, 1), ("turn", 2, 0), ("h", 1)))), (
            ((0, 1, 2), ((0, 2),), (0, 1), (1, 2)), (7, 6, 0),
        ))

    def test_cz_told_twice(self):
        self.same(circuit_plan((2, (("cz", 0, 1), ("cz", 1, 0)))), (((0, 1), (), (0, 1), (0, 1)), (0, 0)))
        self.same(circuit_plan((2, (("cz", 0, 1),) * 3)), (((0, 1), ((0, 1),), (0, 1), (0, 1)), (0, 0)))
        self.same(circuit_plan((2, (("cz", 0, 1), ("h", 0), ("cz", 0, 1)))), (
            ((0, 1, 2), ((0, 1), (0, 2), (1, 2)), (0, 1), (2, 1)), (0, 0, 0),
        ))

    def test_turns_at_the_end(self):
        self.same(circuit_plan((1, (("turn", 5, 0), ("turn", 6, 0), ("h", 0), ("turn", 1, 0), ("turn", 7, 0)))), (
            ((0, 1), ((0, 1),), (0,), (1,)), (5, 0),
        ))

    def test_maps(self):
        chance = random.Random(37)
        for wires in range(1, 4):
            for gate in all_gates(wires):
                self.same(map_of(circuit_plan((wires, (gate,)))), plain_table((wires, (gate,))), gate)
        count = 0
        while count < 60:
            circuit = some_circuit(chance, chance.randint(1, 4), chance.randint(2, 12))
            plan = circuit_plan(circuit)
            if len(plan[0][0]) <= 11:
                self.same(map_of(plan), plain_table(circuit))
                self.same(square_of(map_of(plan)), one_table(circuit[0]))
                count += 1

    def test_numbers_of_dots(self):
        chance = random.Random(38)
        for k in range(60):
            circuit = some_circuit(chance, k % 7, 80)
            web = circuit_plan(circuit)[0]
            self.assertIs(is_even(web), True)
            self.same(web[0], tuple(range(circuit[0] + h_number(circuit))))
            self.same(web[2], tuple(range(circuit[0])))
            self.same((len(looked_of(web)), len(made_of(web))), (h_number(circuit),) * 2)


class PlanTextsTest(StrictCase):
    def refused(self, text, line):
        self.raises(InvalidText, {"line": line, "column": 0}, read_plan, text)

    def test_texts(self):
        self.same(plan_text((EMPTY, ())), "web\ndots\nties\nins\nouts\nangles\nend")
        self.same(
            plan_text((((0, 10, 9999), ((0, 10), (0, 9999)), (9999, 0), (10,)), (7, 0, 3))),
            "web\ndots 0 10 9999\nties 0-10 0-9999\nins 9999 0\nouts 10\nangles 7 0 3\nend",
        )

    def test_there_and_back(self):
        for plan in PLANS + [with_angles(random.Random(2), wide_web(k, 60, 20)) for k in range(3)]:
            self.same(read_plan(plan_text(plan)), plan)

    def test_each_line(self):
        good = ["web", "dots 0 1 12", "ties 0-1 1-12", "ins 12 0", "outs 1 12", "angles 7 0 5", "end"]
        bad = (
            ("", " web", "web ", "Web", "we", "web web", "dots", "web 0"),
            ("", "dot 0 1 12", "dots  0 1 12", "dots 0 1 12 ", " dots 0 1 12", "dots 1 0 12", "dots 0 0 12", "dots 0 1 10000",
             "dots 0 01 12", "dots 00 1 12", "dots -1 0", "dots a", "dots 0,1", "dots 0 1  12", "dots0 1 12", "dots ", "Dots 0",
             "dots 0 1 12x", "dots +1", "dots 1 012", "dots 99999", "ties 0-1", "dots 0-1"),
            ("", "tie 0-1", "ties 1-0", "ties 0-2", "ties 0-0", "ties 1-12 0-1", "ties 0-1 0-1", "ties 0-1 ", "ties  0-1",
             "ties 0 1", "ties 0-1-12", "ties 0-", "ties -1", "ties 0--1", "ties 0-01", "ties 00-1", "ties 0-1  1-12", "ties ",
             " ties 0-1", "ties 0-1,1-12", "ties 0-1 1", "ties 0", "ties a-b", "ties 0 -1", "ties 10000-10001", "ins 0"),
            ("", "in 12", "ins 2", "ins 0 0", "ins 12 0 ", "ins  12", "ins 012", "ins ", "ins 0 1 12 0", "ins a", "ins 10000",
             "outs 0", "ins 12,0", "ins 0-1"),
            ("", "out 1", "outs 2", "outs 1 1", "outs 1 ", "outs  1", "outs 01", "outs ", "outs a", "outs 10000", "ins 1"),
            ("", "angle 7 0 5", "angles 7 0", "angles 7 0 5 0", "angles 7 0 8", "angles 7 0 -1", "angles 7 0 05",
             "angles 7 0 5 ", "angles  7 0 5", "angles", "angles ", "angles a b c", "angles 7,0,5", "angles 7 0 10"),
            ("", "End", "end ", " end", "ends", "end 0", "web"),
        )
        for k, lines in enumerate(bad):
            for line in lines:
                self.refused("\n".join(good[:k] + [line] + good[k + 1:]), k)
                self.refused("\n".join(good[:k] + [line]), k)
                self.refused("\n".join(good[:k] + [line] + ["?"] * 9), k)

    def test_left_out_twice_exchanged(self):
        for plan in PLANS[:12]:
            lines = plan_text(plan).split("\n")
            for k in range(7):
                self.refused("\n".join(lines[:k] + lines[k + 1:]), k)
                self.refused("\n".join(lines[:k + 1] + lines[k:]), k + 1)
                for j in range(k):
                    changed = list(lines)
                    changed[j], changed[k] = changed[k], changed[j]
                    self.refused("\n".join(changed), j)
                self.refused("\n".join(lines[:k] + [""] + lines[k:]), k)

    def test_every_sign(self):
        for sign in ALL_SIGNS:
            for k, line in enumerate(("web", "dots 1", "ties", "ins 1", "outs 1", "angles 1", "end")):
                lines = plan_text((((1,), (), (1,), (1,)), (1,))).split("\n")
                lines[k] = line + sign
                # A figure more makes another dot, which the ins have not.
                self.refused("\n".join(lines), k if k != 1 or not sign.isdigit() else 3)

    def test_a_blank_more(self):
        # No number in these has two figures, so that no blank makes two numbers of one.
        for plan in PLANS[:9]:
            lines = plan_text(plan).split("\n")
            for k in range(7):
                for j in range(len(lines[k]) + 1):
                    self.refused("\n".join(lines[:k] + [lines[k][:j] + " " + lines[k][j:]] + lines[k + 1:]), k)

    def test_ends_too_soon(self):
        for plan in PLANS[:12]:
            lines = plan_text(plan).split("\n")
            for k in range(1, 7):
                self.refused("\n".join(lines[:k]), k)
                self.refused("\n".join(lines[:k]) + "\n", k)
        self.refused("", 0)
        self.refused("\n", 0)

    def test_lines_behind_the_end(self):
        for plan in PLANS[:12]:
            for more in ("\n", "\n ", "\nend", "\nweb", "\n\n", "\n# x"):
                self.refused(plan_text(plan) + more, 7)

    def test_texts_that_are_read_are_those_of_what_is_read(self):
        chance = random.Random(4)
        texts = [plan_text(plan) for plan in PLANS]
        for _ in range(3000):
            text = chance.choice(texts)
            k = chance.randrange(len(text) + 1)
            text = text[:k] + chance.choice("0123456789- \nabdeginstuw") * chance.randrange(2) + text[k + chance.randrange(2):]
            try:
                plan = read_plan(text)
            except InvalidText as error:
                lines = text.split("\n")
                self.assertEqual(error.column, 0)
                self.assertLessEqual(error.line, len(lines))
            else:
                self.assertIs(is_plan(plan), True)
                self.same(plan_text(plan), text)
