"""Every function of the interface stands in its file, under its name, with its parameters."""

import importlib
import inspect
import unittest

INTERFACE = {
    "kinds": (
        "is_integer(thing)", "is_number(thing)", "is_turn(thing)", "is_exact(thing)", "is_lot(thing)",
        "is_bits(many, thing)",
    ),
    "exacts": (
        "plus(one, other)", "minus(one, other)", "times(one, other)", "mirror_of(exact)", "unit(turn)",
        "turn_of(exact)", "by_root(exact)",
    ),
    "sizes": ("size_of(exact)", "sign_of(whole, part)"),
    "tables": (
        "is_table(thing)", "table_of(outs, ins, power, rows)", "one_table(many)", "nought_table(outs, ins)",
        "entry_at(table, y, x)",
    ),
    "products": ("chained(first, second)", "side_by_side(low, high)", "mirrored(table)", "added(one, other)"),
    "scaling": ("scaled(table, many)", "turned(table, turn)", "negative(table)"),
    "shifting": ("shifted(table, flips, signs, turns)", "column_of(table, x)", "on_plus(table)"),
    "likeness": ("is_nought(table)", "alike(one, other)", "square_of(table)", "number_of(table)"),
    "datatexts": ("data_text(thing)", "read_data(text)"),
    "booknames": ("is_name(thing)", "is_book(thing)", "part_names(book)"),
    "exprs": ("read_expr(text)", "expr_text(expr)", "is_expr(thing)", "worth_of(expr, names)"),
    "bookreader": ("read_book(text)",),
    "booktexts": ("book_text(book)",),
    "gatekinds": ("is_circuit(thing)", "circuit_of(wires, gates)", "ccz_gates(one, other, third)"),
    "gatetables": ("gate_table(wires, gate)", "plain_table(circuit)"),
    "circuitchanges": (
        "inverse(circuit)", "chained_circuits(first, second)", "beside_circuits(low, high)", "odd_turns(circuit)",
        "h_number(circuit)",
    ),
    "flattening": ("flat(book, name)", "wire_names(book, name)"),
    "circuitbooks": ("circuit_text(circuit)",),
    "webkinds": (
        "is_web(thing)", "web_of(dots, ties, ins, outs)", "looked_of(web)", "made_of(web)", "inner_of(web)",
        "near_of(web, dot)", "is_even(web)",
    ),
    "webchecker": ("lets_web(thing)",),
    "oddlots": ("lot_sum(one, other)", "odd_lot(web, lot)", "ties_within(web, lot)", "is_even_into(web, dot, lot)"),
    "webchanges": (
        "toggled(web, one, other)", "with_dot(web, dot)", "without_dot(web, dot)", "turned_web(web)",
        "put_in(web, lot)", "renamed_web(web, names)",
    ),
    "plankinds": (
        "is_plan(thing)", "angle_of(plan, dot)", "with_angle(plan, dot, turn)", "more_angle(plan, lot, turn)",
        "odd_angles(plan)",
    ),
    "plansums": ("sums_of(plan)", "map_of(plan)"),
    "alongsums": ("sums_along(plan, dots)", "live_along(web, dots)"),
    "planjoins": (
        "chained_plans(first, second)", "beside_plans(low, high)", "turned_plan(plan)", "renamed_plan(plan, names)",
    ),
    "circuitplans": ("circuit_plan(circuit)",),
    "plantexts": ("plan_text(plan)", "read_plan(text)"),
}


class InterfaceTest(unittest.TestCase):
    def test_functions_stand_in_their_files(self):
        for file, told in INTERFACE.items():
            module = importlib.import_module(f"lookundone.{file}")
            for line in told:
                name = line.partition("(")[0]
                function = getattr(module, name)
                self.assertEqual(name + str(inspect.signature(function)), line)
                self.assertEqual(function.__module__, f"lookundone.{file}")
                self.assertEqual(function.__name__, name)


if __name__ == "__main__":
    unittest.main()
