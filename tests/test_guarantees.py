"""[11], [2] to [12] over the whole program: what one file returns is passed in to the others."""

import itertools
import random

from lookundone.accountbranches import account_branch
from lookundone.accountkinds import arrows_in, is_account
from lookundone.accounts import account_of
from lookundone.backing import circuit_back, shorter_circuit
from lookundone.blindruns import blind_table
from lookundone.bookreader import read_book
from lookundone.chains import chain_of
from lookundone.circuitbooks import circuit_text
from lookundone.circuitplans import circuit_plan
from lookundone.compiling import compiled
from lookundone.datatexts import data_text, read_data
from lookundone.errors import NoFlow
from lookundone.flattening import flat
from lookundone.floors import floors_of, lets_floors
from lookundone.flowkinds import arrows_of, flow_rounds, lets_flow
from lookundone.focusing import focused
from lookundone.gatetables import plain_table
from lookundone.layers import fewest_flow, fewest_rounds
from lookundone.lazyruns import lazy_run
from lookundone.leading import led_together, standard_steps
from lookundone.leastpeaks import least_peak, lets_peak
from lookundone.likeness import alike
from lookundone.linear import linear_of, linears_of
from lookundone.livecounts import peak_of
from lookundone.lookrounds import many_rounds, rounds_by
from lookundone.orders import allowed, is_let
from lookundone.planjoins import beside_plans, chained_plans, renamed_plan, turned_plan
from lookundone.plankinds import is_plan
from lookundone.plansums import map_of, sums_of
from lookundone.plantexts import plan_text, read_plan
from lookundone.products import chained, mirrored
from lookundone.programchecker import is_program
from lookundone.programkinds import live_counts, looks_of, with_turns
from lookundone.quicks import quick_account, quick_program
from lookundone.rightaccounts import flow_in, right_account, right_program, wrong_lot
from lookundone.rightness import is_right
from lookundone.scaling import scaled
from lookundone.settling import flow_of, settle
from lookundone.shifting import on_plus
from lookundone.shortening import shortened
from lookundone.shutlots import lets_paper
from lookundone.standards import standard_of
from lookundone.stepchecker import lets_steps
from lookundone.tables import is_table, one_table
from lookundone.webchanges import put_in, turned_web
from lookundone.webkinds import is_even, looked_of
from lookundone.widening import widened
from tests.common import PLUS, ROW, TRI, StrictCase
from tests.some_programs import some_programs
from tests.some_webs import some_web, with_angles
from tests.test_circuits import some_circuit
from tests.test_rightaccounts import some_flows


def webs_with_flows(count, seed, even):
    chance = random.Random(seed)
    found = []
    while len(found) < count:
        ins = chance.randint(0, 2)
        outs = ins if even else chance.randint(ins, 3)
        web = some_web(chance, chance.randint(outs, 6), 30, ins, outs, 0.45)
        if settle(web)[0] == "flow":
            found.append(web)
    return found


def has_flow(web):
    return settle(web)[0] == "flow"


class GuaranteesTest(StrictCase):
    def test_programs_that_are_right_at_all_angles(self):
        # G5 for programs, by their accounts; turns that are not a few tell which ones are right.
        chance = random.Random(5)
        met = {True: 0, False: 0}
        programs = [right_program(plan, flow) for plan, flow in some_flows(20, 50, 5)]
        for program in programs + some_programs(150, 51, looks=3, commands=10, widest=3):
            by_flow = wrong_lot(account_of(program)) is None
            many = len(looks_of(program))
            all_right = all(
                is_right(with_turns(program, tuple(chance.randint(0, 7) for _ in range(many)))) for _ in range(8)
            )
            self.assertEqual(by_flow, all_right, program)
            met[all_right] += 1
        self.assertGreater(min(met.values()), 20)

    def test_compiled_programs(self):
        # G7: the account of the compiled program is that by the flow of the plan's web.
        chance = random.Random(7)
        for k in range(40):
            circuit = some_circuit(chance, 1 + k % 3, 8)
            plan = circuit_plan(circuit)
            self.assertTrue(is_even(plan[0]))
            self.same(account_of(compiled(circuit)), right_account(plan, flow_of(plan[0])))
            self.same(flow_in(account_of(compiled(circuit))), flow_of(plan[0]))
            self.same(standard_of(compiled(circuit)), right_program(plan, flow_of(plan[0])))

    def test_steps_lead_to_the_program_by_the_flow(self):
        chance = random.Random(71)
        for k in range(10):
            circuit = some_circuit(chance, 1 + k % 2, 6)
            plan = circuit_plan(circuit)
            program, wanted = compiled(circuit), right_program(plan, flow_of(plan[0]))
            self.same(lets_steps(program, standard_steps(program)), wanted)
            self.assertIsNotNone(led_together(program, wanted))

    def test_flows_of_chained_plans(self):
        # G8: flows of both give one, with at most their rounds together; one of both gives one of the first.
        chance = random.Random(8)
        met = {}
        for _ in range(500):
            middle = chance.randint(0, 2)
            first = some_web(chance, chance.randint(middle, 4), 30, chance.randint(0, middle), middle, 0.5)
            second = some_web(chance, chance.randint(middle, 4), 30, middle, None, 0.5)
            both = chained_plans(with_angles(chance, first), with_angles(chance, second))[0]
            if has_flow(first) and has_flow(second):
                self.assertTrue(has_flow(both))
                self.assertLessEqual(fewest_rounds(both), fewest_rounds(first) + fewest_rounds(second))
            if has_flow(both):
                self.assertTrue(has_flow(first))
                self.assertLessEqual(fewest_rounds(first), fewest_rounds(both))
            if is_even(first) and is_even(second):
                self.assertEqual(has_flow(both), has_flow(first) and has_flow(second))
            key = has_flow(first), has_flow(second), has_flow(both)
            met[key] = met.get(key, 0) + 1
        self.assertTrue({(True, True, True), (True, False, False), (False, True, False)} <= set(met), met)

    def test_webs_turned_about(self):
        # G8: an even web turned about has a flow exactly if the web has; arrows are turned, too.
        chance = random.Random(81)
        for web in webs_with_flows(40, 81, True):
            back = turned_web(web)
            self.assertTrue(has_flow(back))
            self.assertEqual(fewest_rounds(back), fewest_rounds(web))
            flow, other_flow = dict(flow_of(web)), dict(flow_of(back))
            for dot in looked_of(web):
                for other in web[0]:
                    if other in looked_of(back):
                        self.assertEqual(other in flow[dot], dot in other_flow[other])
            plan = with_angles(chance, web)
            self.same(sums_of(turned_plan(plan))[:2], (len(web[2]), len(web[3])))
        for _ in range(60):
            web = some_web(chance, 5, 30, 1, 1, 0.5)
            self.assertEqual(has_flow(web), has_flow(turned_web(web)))

    def test_plans_side_by_side(self):
        chance = random.Random(82)
        for low, high in itertools.product(webs_with_flows(5, 83, False), repeat=2):
            plan = beside_plans(with_angles(chance, low), with_angles(chance, high))
            self.assertEqual(fewest_rounds(plan[0]), max(fewest_rounds(low), fewest_rounds(high)))

    def test_a_plan_goes_through_all_files(self):
        chance = random.Random(2)
        for web in webs_with_flows(40, 21, False):
            plan = with_angles(chance, web)
            self.same(read_plan(plan_text(plan)), plan)
            paper = settle(web)
            self.same(lets_paper(web, read_data(data_text(paper))), "flow")
            flow = fewest_flow(web)
            looked = looked_of(web)
            order = linear_of(looked, arrows_of(web, flow))
            word, lots = allowed(web, order)
            self.same(word, "let")
            again = focused(web, order, lots)
            account = right_account(plan, again)
            self.same(flow_in(account), again)
            self.same(rounds_by(account), flow_rounds(web, again))
            self.assertEqual(lets_floors(web, floors_of(web)), lets_flow(web, flow))
            self.assertIs(is_let(web, order), True)
            self.assertTrue(has_flow(put_in(web, widened(web))))
            if is_even(web):
                self.assertEqual(len(chain_of(web)), many_rounds(account))
            for found in (account, quick_account(plan, flow)):
                self.assertTrue(is_account(found))
                peak, best, _ = least_peak(found)
                self.same(lets_peak(found, least_peak(found)), peak)
                self.same(peak_of(web, best), peak)
                if len(looked) <= 4:
                    linears = linears_of(looked, arrows_in(found))
                    self.assertEqual(peak, min(peak_of(web, linear) for linear in linears))
            for program in (right_program(plan, flow), quick_program(plan, flow)):
                self.assertTrue(is_program(program))
                self.assertGreaterEqual(max(live_counts(program) + (len(web[2]),)), len(web[0]))
            short, rules, _ = shortened(plan)
            self.assertTrue(is_plan(short))
            if is_even(web):
                self.same(flat(read_book(circuit_text(circuit_back(short))), "main") if web[0] else (0, ()), circuit_back(short))

    def test_a_circuit_goes_through_all_files(self):
        chance = random.Random(22)
        for k in range(20):
            circuit = some_circuit(chance, 1 + k % 2, 6)
            plan = circuit_plan(circuit)
            flow = flow_of(plan[0])
            looked = looked_of(plan[0])
            table = plain_table(circuit)
            wanted = scaled(table, -len(looked))
            bits = tuple(chance.randint(0, 1) for _ in looked)
            order = least_peak(right_account(plan, flow))[1]
            self.assertIsNotNone(alike(account_branch(right_account(plan, flow), bits), wanted))
            self.assertIsNotNone(alike(lazy_run(plan, flow, True, order, bits), wanted))
            secrets = tuple((chance.randint(0, 7), chance.randint(0, 1)) for _ in looked)
            found = blind_table(plan, flow, order, secrets, bits)
            self.assertTrue(is_table(found))
            self.assertIsNotNone(alike(found, on_plus(wanted)))
            self.assertIsNotNone(alike(plain_table(shorter_circuit(circuit)), table))
            back = turned_plan(circuit_plan(circuit_back(plan)))
            # Forth and back again: a plan turned about has the mirrored sums.
            if len(back[0][0]) <= 8:
                self.same(map_of(back), mirrored(table))
            self.same(chained(table, mirrored(table)), one_table(circuit[0]))
            names = tuple(chance.sample(range(100), len(plan[0][0])))
            self.assertEqual(settle(renamed_plan(plan, names)[0])[0], "flow")

    def test_errors_carry_what_may_be_passed_in_again(self):
        for web in (TRI, ((0, 1), (), (0,), (1,)), ((4,), (), (), ())):
            for call in (flow_of, fewest_rounds, fewest_flow, floors_of, widened):
                with self.assertRaises(NoFlow) as caught:
                    call(web)
                self.same(lets_paper(web, caught.exception.paper), caught.exception.paper[0])
        self.assertTrue(has_flow(ROW) and has_flow(PLUS))
