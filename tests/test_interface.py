"""Every function of the interface stands in its file, under its name, with its parameters."""

import importlib
import inspect
import unittest

INTERFACE = {
    "kinds": (
        "is_integer(thing)", "is_number(thing)", "is_turn(thing)", "is_exact(thing)", "is_lot(thing)",
        "is_bits(many, thing)",
    ),
    "exacts": (
        "plus(one, other)", "minus(one, other)", "times(one, other)", "mirror_of(exact)", "unit(turn)",
        "turn_of(exact)", "by_root(exact)",
    ),
    "sizes": ("size_of(exact)", "sign_of(whole, part)"),
    "tables": (
        "is_table(thing)", "table_of(outs, ins, power, rows)", "one_table(many)", "nought_table(outs, ins)",
        "entry_at(table, y, x)",
    ),
    "products": ("chained(first, second)", "side_by_side(low, high)", "mirrored(table)", "added(one, other)"),
    "scaling": ("scaled(table, many)", "turned(table, turn)", "negative(table)"),
    "shifting": ("shifted(table, flips, signs, turns)", "column_of(table, x)", "on_plus(table)"),
    "likeness": ("is_nought(table)", "alike(one, other)", "square_of(table)", "number_of(table)"),
    "datatexts": ("data_text(thing)", "read_data(text)"),
    "booknames": ("is_name(thing)", "is_book(thing)", "part_names(book)"),
    "exprs": ("read_expr(text)", "expr_text(expr)", "is_expr(thing)", "worth_of(expr, names)"),
    "bookreader": ("read_book(text)",),
    "booktexts": ("book_text(book)",),
    "gatekinds": ("is_circuit(thing)", "circuit_of(wires, gates)", "ccz_gates(one, other, third)"),
    "gatetables": ("gate_table(wires, gate)", "plain_table(circuit)"),
    "circuitchanges": (
        "inverse(circuit)", "chained_circuits(first, second)", "beside_circuits(low, high)", "odd_turns(circuit)",
        "h_number(circuit)",
    ),
    "flattening": ("flat(book, name)", "wire_names(book, name)"),
    "circuitbooks": ("circuit_text(circuit)",),
    "webkinds": (
        "is_web(thing)", "web_of(dots, ties, ins, outs)", "looked_of(web)", "made_of(web)", "inner_of(web)",
        "near_of(web, dot)", "is_even(web)",
    ),
    "webchecker": ("lets_web(thing)",),
    "oddlots": ("lot_sum(one, other)", "odd_lot(web, lot)", "ties_within(web, lot)", "is_even_into(web, dot, lot)"),
    "webchanges": (
        "toggled(web, one, other)", "with_dot(web, dot)", "without_dot(web, dot)", "turned_web(web)",
        "put_in(web, lot)", "renamed_web(web, names)",
    ),
    "plankinds": (
        "is_plan(thing)", "angle_of(plan, dot)", "with_angle(plan, dot, turn)", "more_angle(plan, lot, turn)",
        "odd_angles(plan)",
    ),
    "plansums": ("sums_of(plan)", "map_of(plan)"),
    "alongsums": ("sums_along(plan, dots)", "live_along(web, dots)"),
    "planjoins": (
        "chained_plans(first, second)", "beside_plans(low, high)", "turned_plan(plan)", "renamed_plan(plan, names)",
    ),
    "circuitplans": ("circuit_plan(circuit)",),
    "plantexts": ("plan_text(plan)", "read_plan(text)"),
    "programchecker": ("is_program(thing)", "lets_program(thing)"),
    "programkinds": (
        "looks_of(program)", "dots_of(program)", "live_counts(program)", "with_turns(program, turns)",
    ),
    "states": ("state_start(ins)", "state_after(state, command, bit)"),
    "branches": ("branch_of(program, outcomes)", "branches_of(program)", "chance_of(program, outcomes)"),
    "rightness": ("is_right(program)", "mapped(program)", "right_at(program, turns)"),
    "compiling": ("compiled(circuit)",),
    "plainprograms": ("plain_program(plan)",),
    "programjoins": (
        "chained_programs(first, second)", "beside_programs(low, high)", "renamed_program(program, names)",
    ),
    "programtexts": ("program_text(program)", "read_program(text)"),
    "accountkinds": ("is_account(thing)", "plan_in(account)", "waits_at(account, dot)", "arrows_in(account)"),
    "accounts": ("account_of(program)", "names_of(program)"),
    "newoutcomes": ("new_outcomes(program, outcomes)", "old_outcomes(program, outcomes)"),
    "accountbranches": ("account_branch(account, outcomes)", "account_right(account)"),
    "standards": ("program_of(account)", "standard_of(program)", "apart_of(one, other)"),
    "steps": ("steps_of(program)", "step_done(program, step)", "step_outcomes(program, step, outcomes)"),
    "leading": ("standard_steps(program)", "led_together(one, other)"),
    "stepchecker": ("lets_steps(program, thing)",),
    "bitrows": ("parity(number)", "places_of(number)", "number_of_places(places)", "sum_of_rows(rows)"),
    "solving": ("solve_rows(rows, target)", "lets_solved(rows, target, thing)"),
    "kernels": ("kernel_of(rows)", "rank_of(rows)"),
    "squares": ("inverse_rows(rows)", "product_rows(rows, others)", "flipped_rows(rows, wide)"),
    "arrowkinds": ("is_arrows(thing)", "dots_in(arrows)", "arrows_back(arrows)"),
    "heights": ("heights_of(dots, arrows)", "longest_chain(dots, arrows)"),
    "rings": ("shortest_ring(dots, arrows)",),
    "linear": (
        "linear_of(dots, arrows)", "keeps_arrows(order, arrows)", "linears_of(dots, arrows)", "come_from(arrows, dot)",
    ),
    "flowkinds": (
        "is_flow(web, thing)", "lets_flow(web, thing)", "arrows_of(web, flow)", "flow_rounds(web, flow)",
    ),
    "focusing": ("focused(web, order, lots)",),
    "tellinglots": ("lets_telling(web, thing)", "is_idle(web, lot)", "told_angles(web, lot)", "told_sign(web, lot)"),
    "telling": ("telling_lots(web)", "kind_of(web)"),
    "shutlots": ("shut_of(web)", "lets_shut(web, thing)", "lets_paper(web, thing)"),
    "settling": ("settle(web)", "flow_of(web)"),
    "layers": ("layers_of(web)", "fewest_rounds(web)", "fewest_flow(web)"),
    "floors": ("floors_of(web)", "lets_floors(web, thing)"),
    "widening": ("widened(web)",),
    "chains": ("chain_of(web)",),
    "orders": ("allowed(web, order)", "is_let(web, order)", "lets_allowed(web, order, thing)"),
    "rightaccounts": (
        "right_account(plan, flow)", "right_program(plan, flow)", "wrong_lot(account)", "flow_in(account)",
    ),
    "quicks": ("quick_account(plan, flow)", "quick_program(plan, flow)"),
    "lookrounds": ("rounds_by(account)", "many_rounds(account)"),
    "machines": ("Machine(plan, flow, fast)",),
    "lazyruns": ("lazy_events(web, order)", "lazy_run(plan, flow, fast, order, outcomes)"),
    "livecounts": ("live_at(web, order)", "peak_of(web, order)"),
    "leastpeaks": ("least_peak(account)", "lets_peak(account, thing)"),
    "lies": ("lied(plan, lot)", "shown_for(account, outcomes, lot)"),
    "quarters": ("quarter_done(plan, dot)",),
    "halves": ("halves_done(plan, one, other)",),
    "merges": ("merge_done(plan, dot, inner, other)",),
    "rules": ("rules_of(plan)", "rule_done(plan, rule)"),
    "shortening": ("shortened(plan)", "lets_rules(plan, thing)"),
    "bounds": ("odd_inner(plan)", "most_left(plan)"),
    "backing": ("circuit_back(plan)", "shorter_circuit(circuit)"),
    "samemaps": ("maps_alike(first, second)",),
    "secrets": ("is_secrets(web, thing)", "sent_turns(web, secrets)"),
    "clients": ("Client(plan, flow, secrets)",),
    "workers": ("Worker(web, sent)",),
    "seenby": ("secrets_for(plan, flow, order, asked, answers)", "sent_sum(web, secrets)"),
    "blindruns": (
        "asked_turns(plan, flow, order, secrets, answers)", "blind_table(plan, flow, order, secrets, answers)",
    ),
    "desk": ("Desk()",),
}
METHODS = {
    "machines Machine": ("ready()", "left()", "told()", "angle(dot)", "tell(dot, bit)", "ended()"),
    "clients Client": ("sends()", "left()", "ready()", "asks(dot)", "hears(dot, bit)", "ended()"),
    "workers Worker": ("looks(dot, turn, bit)", "left()", "held()", "outs_table()"),
    "desk Desk": ("say(line)",),
}


class InterfaceTest(unittest.TestCase):
    def test_functions_stand_in_their_files(self):
        for file, told in INTERFACE.items():
            module = importlib.import_module(f"lookundone.{file}")
            for line in told:
                name = line.partition("(")[0]
                function = getattr(module, name)
                self.assertEqual(name + str(inspect.signature(function)), line)
                self.assertEqual(function.__module__, f"lookundone.{file}")
                self.assertEqual(function.__name__, name)

    def test_methods_stand_in_their_classes(self):
        for place, told in METHODS.items():
            file, owner = place.split()
            methods = vars(getattr(importlib.import_module(f"lookundone.{file}"), owner))
            for line in told:
                name, _, parameters = line.partition("(")
                own = "(self)" if parameters == ")" else f"(self, {parameters}"
                self.assertTrue(inspect.isfunction(methods[name]))
                self.assertEqual(str(inspect.signature(methods[name])), own)


if __name__ == "__main__":
    unittest.main()
