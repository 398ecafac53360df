"""[2], [12]: for every function how its arguments are passed, and which ones it refuses."""

import copy
import importlib
import itertools

from tests.common import (
    EMPTY, H, HALF, LINE, NEVER, NO_WIRES, ONE_WIRE, PLUS, ROW, SEEN, STEP, TRI, TWICE, TWO, StrictCase,
)

EXACT = (3, -1, 0, 2)
NO_INTEGERS = (None, True, False, "1", "", (), (1,), [1])
NO_EXACTS = NEVER + (
    (0, 0, 0), (0, 0, 0, 0, 0), [0, 0, 0, 0], (0, 0, 0, True), (False, 0, 0, 0), (0, "0", 0, 0), (0, 0, None, 0),
)
NO_TURNS = NO_INTEGERS + (-1, 8, 10 ** 30)
NO_TABLES = NEVER + (
    list(H), H[:3], H + (0,), (1, 1, True, H[3]), (1, 1, -1, H[3]), (True, 1, 1, H[3]), (1, True, 1, H[3]),
    (1, 1, 1, list(H[3])), (1, 1, 1, (list(H[3][0]), H[3][1])), (1, 1, 1, H[3][:1]), (1, 1, 1, H[3] + H[3]),
    (1, 1, 1, ONE_WIRE[3][:1] + (((0, 0, 0, 0),),)), (1, 1, 2, ((((2, 0, 0, 0),) * 2),) * 2),
    (1, 1, 1, (((0, 0, 0, 0), (0, 0, 0, 0)),) * 2), (1, 1, 0, (((1, 0, 0, 0), (0, 0, 0, True)),) * 2),
)
NO_DOTS_OF_ROW = NO_INTEGERS + (-1, 3, 9999, 10000)
NO_LOTS = (None, True, 0, "", [], [0], (True,), (False,), (1, 0), (1, 1), (-1,), (10000,), ("0",), ((0,),))
NO_LOTS_OF_ROW = NO_LOTS + ((0, 3), (9999,))
NO_WEBS = NEVER + (list(ROW), ROW[:3], ROW + ((),), ((1, 0), (), (), ()), ((0,), (), (1,), ()), ((0,), (), (True,), ()))
NO_PLANS = NEVER + NO_WEBS + (
    ROW, [ROW, (0, 0, 0)], (ROW, (0, 0)), (ROW, (0, 0, 0, 0)), (ROW, [0, 0, 0]), (ROW, (0, 0, 8)), (ROW, (0, True, 0)),
    (ROW, (0, 0, -1)), (ROW, (0, 0, 0), ()),
)
NO_CIRCUITS = NEVER + (
    (7, ()), (-1, ()), (True, ()), (1, []), [1, ()], (1, (("h", 1),)), (1, (("h", True),)), (1, (("turn", 0, 0),)),
    (2, (("cz", 1, 1),)), (1, (), ()), (1, (("t", 0),)),
)
NO_BITS_OF_ONE = (None, 0, 1, (), (2,), (-1,), (True,), (False,), [0], (0, 0), ("0",), (None,))
NO_TURNS_OF_ONE = NO_BITS_OF_ONE[:4] + ((8,), (-1,), (True,), (False,), [0], (0, 0), ("0",))
BOOK = (
    ("part", "p", (("a", 0), ("q", 2)), (("use", "f", (("wire", "a"),)),)),
    ("part", "f", (("b", 0),), (("gate", "h", (("wire", "b"),)),)),
    ("part", "wide", (("q", 6), ("a", 0)), ()),
    ("part", "wires", tuple((name, 0) for name in "abcdefg"), ()),
)
NO_PARTS = NEVER + ("none", "P", "wide", "wires", "part", b"p", ("p",), ["p"])
EXPR = ("plus", ("num", 1), ("var", "i"))
NO_WORTHS = (
    None, 1, "i", [("i", 1)], (("i", 1), ["i", 1]), ("i", 1), (("i",),), (("i", 1, 1),), (("i", True),),
    (("i", "1"),), ((1, 1),), (("I", 1),), (("end", 1),), (("", 1),), (("i", None),), (("abcdefghijklm", 1),), {},
)
NO_PROGRAMS = NEVER + (
    list(STEP), STEP[:3], STEP + ((),), ([0],) + STEP[1:], ((True,),) + STEP[1:], ((0, 0),) + STEP[1:],
    (STEP[0], [1], *STEP[2:]), (STEP[0], (0,), *STEP[2:]), (STEP[0], (True,), *STEP[2:]), (STEP[0], (), *STEP[2:]),
    (*STEP[:2], list(STEP[2]), STEP[3]), (*STEP[:2], STEP[2][1:], STEP[3]), (*STEP[:2], STEP[2] + STEP[2], STEP[3]),
    (*STEP[:2], STEP[2][:3] + (("flip", 1, (1,)),), STEP[3]), (*STEP[:2], STEP[2][:3] + (("flip", 1, [0]),), STEP[3]),
    (*STEP[:3], [0]), (*STEP[:3], (8,)), (*STEP[:3], (False,)), (*STEP[:3], ()), (*STEP[:3], (0, 0)),
)
NO_BITS_OF_TWO = (
    None, 0, 1, (), (0,), (0, 0, 0), (0, 2), (2, 0), (0, -1), (0, True), (False, 0), [0, 0], (0, "0"), (0, None), "00",
)
NO_TURNS_OF_TWO = (
    None, 0, 1, (), (0,), (0, 0, 0), (0, 8), (8, 0), (0, -1), (0, True), (False, 0), [0, 0], (0, "0"), (0, None), "00",
)
NO_NAMES_OF_THREE = NEVER + (
    [5, 9, 0], (5, 9), (5, 9, 0, 1), (5, 5, 0), (5, 10000, 0), (5, -1, 0), (5, True, 0), (5, "9", 0),
)
STATE = ((0, 5), ((3, 1),), (2, 0, 0, (((1, 0, 0, 0),), ((0, 1, 0, 0),), ((2, 0, 0, 0),), ((0, 0, 3, 0),))))
NO_COMMANDS = NEVER + (
    ["look", 5, 1, (3,), ()], ("look", 5, 1, (3,)), ("look", 5, 1, (3,), (), ()), ("look", 5, 8, (3,), ()),
    ("look", 5, True, (3,), ()), ("look", 5, 1, [3], ()), ("look", 5, 1, (3,), [3]), ("look", 5, 1, (3, 3), ()),
    ("look", 4, 1, (3,), ()), ("look", 3, 1, (), ()), ("look", 5, 1, (5,), ()), ("look", 5, 1, (), (0,)),
    ("look", 5, 1, (4,), ()), ("Look", 5, 1, (3,), ()), ("new", 5), ("new", 3), ("new", 10000), ("new", True), ("new",),
    ("new", 4, 6), ("tie", 0, 3), ("tie", 0, 4), ("tie", 5, 0), ("tie", 0, 0), ("tie", 0), ("tie", False, 5),
    ("flip", 3, ()), ("flip", 4, ()), ("flip", 0, (5,)), ("flip", 0, (4,)), ("flip", 0, 3), ("flip", 0),
    ("sign", 3, ()), ("sign", 0, (0,)), ("sign", 0, [3]), ("sign", 0, (True,)), ("sign", 0, (), ()),
)
NO_ACCOUNTS = NEVER + (
    list(HALF), HALF[:4], HALF + ((),), HALF[:2], (EMPTY, *HALF[1:]), (ROW, [1, 2, 0], *HALF[2:]),
    (ROW, (1, 2), *HALF[2:]), (ROW, (1, 2, True), *HALF[2:]), (*HALF[:2], [(), (0,)], *HALF[3:]),
    (*HALF[:2], ((),), *HALF[3:]), (*HALF[:2], ((), (0,), ()), *HALF[3:]), (*HALF[:2], ((1,), (0,)), *HALF[3:]),
    (*HALF[:2], ((0,), ()), *HALF[3:]), (*HALF[:2], ((), [0]), *HALF[3:]), (*HALF[:2], ((), (2,)), *HALF[3:]),
    (*HALF[:2], ((), (False,)), *HALF[3:]), (*HALF[:3], ((2,),), HALF[4]), (*HALF[:3], ((1, 0),), HALF[4]),
    (*HALF[:3], (), HALF[4]), (*HALF[:3], (1,), HALF[4]), (*HALF[:4], ((2,),)), (*HALF[:4], ((), ())), (*HALF[:4], [()]),
)
NO_STEPS = NEVER + (
    ["shift", 5], ("shift",), ("shift", 5, 0), ("shift", True), ("shift", 4), ("shift", 7), ("shift", -2), ("shift", "5"),
    ("swap", False), ("swap", True), ("swap", 0), ("swap", 6), ("swap", 7), ("swap", -1), ("drop", 6), ("into", 2),
    ("Swap", 2), (None, 2), (("swap",), 2), (2, "swap"), ("swap", None), ("swap", [2]), ("cancel", 1), ("join", 5),
    ("past", 5), ("swap", 10 ** 30),
)
ROWS = (3, 5, 6, 0, 2 ** 79)
ARROWS = ((0, 1), (0, 2), (1, 2))
NO_ARROWS = (
    None, True, 0, "", [], [(0, 1)], (0, 1), ([0, 1],), ((0,),), ((0, 1, 2),), ((0, 3),), ((3, 0),), ((0, 10000),),
    ((0, -1),), ((0, True),), ((False, 1),), ((0, "1"),), ((0, 1), (0, 1)), ((0, 2), (0, 1)), ((1, 0), (0, 1)), (None,),
)
NO_FLOWS_OF_ROW = NEVER + (
    [(0, (1,)), (1, (2,))], ((0, (1,)),), ((1, (2,)), (0, (1,))), ((0, (1,)), (1, (2,)), (2, ())), ([0, (1,)], (1, (2,))),
    ((0, [1]), (1, (2,))), ((False, (1,)), (1, (2,))), ((0, (1,)), (True, (2,))), ((0, (1, 2)), (1, (2,))),
    ((0, (True,)), (1, (2,))), ((0, (1,)), (1, (0,))), ((0, ()), (1, (2,))), ((0, (1,)), (1, (0, 2))), ((0, 1), (1, 2)),
)
NO_TELLING_OF_TRI = NO_LOTS + ((), (0,), (1,), (2,), (0, 2), (0, 1, 2), [0, 1], (False, 1), (0, True), (3,))

NO_ORDERS_OF_ROW = NEVER + ([0, 1], (0,), (1,), (0, 1, 2), (0, 2), (0, 0), (False, 1), (0, True), (0, "1"), (0, 3))
NO_TRUTHS = tuple(thing for thing in NEVER if not isinstance(thing, bool)) + ([True], (False,), "True")
ROW_PLAN = (ROW, (1, 2, 0))
ROW_FLOW = ((0, (1,)), (1, (2,)))
ROW_SECRETS = ((3, 1), (0, 0))
LINE_PLAN = (LINE, (1, 4, 0, 5))
NO_RULES = NEVER + (
    ["halves", 1, 2], ("halves", True, 2), ("halves", 2, 1), ("halves", 1), ("quarter", 1), ("merge", True, 2, 0),
    ("merge", 1, 2, False), ("merge", 1, 0, 2), ("Halves", 1, 2), (("halves", 1, 2),), ("halves", 1, "2"), (1, 2),
)
NO_SECRETS_OF_ROW = NEVER + (
    list(ROW_SECRETS), ROW_SECRETS[:1], ROW_SECRETS + ((0, 0),), ([3, 1], (0, 0)), ((3, 1), (0, 2)), ((8, 1), (0, 0)),
    ((-1, 1), (0, 0)), ((3, True), (0, 0)), ((True, 1), (0, 0)), ((3, 1, 0), (0, 0)), ((3, 1), (0, "0")), (3, 1), ((3, 1), ()),
)

# Each case: the file, the function, its arguments, and wrong values of the parameters that are asked for.
CASES = (
    ("kinds", "is_integer", {"thing": 1}, {}),
    ("kinds", "is_number", {"thing": 1}, {}),
    ("kinds", "is_turn", {"thing": 1}, {}),
    ("kinds", "is_exact", {"thing": EXACT}, {}),
    ("kinds", "is_lot", {"thing": (1, 2)}, {}),
    ("kinds", "is_bits", {"many": 2, "thing": (1, 0)}, {}),
    ("exacts", "plus", {"one": EXACT, "other": (1, 2, 3, 4)}, {"other": NO_EXACTS}),
    ("exacts", "minus", {"one": EXACT, "other": (1, 2, 3, 4)}, {"other": NO_EXACTS}),
    ("exacts", "times", {"one": EXACT, "other": (1, 2, 3, 4)}, {"other": NO_EXACTS}),
    ("exacts", "mirror_of", {"exact": EXACT}, {}),
    ("exacts", "unit", {"turn": 5}, {}),
    ("exacts", "turn_of", {"exact": (0, 0, 1, 0)}, {}),
    ("exacts", "by_root", {"exact": (2, 0, 0, 0)}, {}),
    ("sizes", "size_of", {"exact": EXACT}, {}),
    ("sizes", "sign_of", {"whole": 3, "part": -2}, {"part": NO_INTEGERS}),
    ("tables", "is_table", {"thing": H}, {}),
    (
        "tables", "table_of", {"outs": 1, "ins": 1, "power": 3, "rows": H[3]},
        {
            "outs": NO_INTEGERS + (-1, 13, 10 ** 30),
            "ins": NO_INTEGERS + (-1, 13, 10 ** 30),
            "power": NO_INTEGERS + (-61, 61, 10 ** 30),
            "rows": NEVER + (
                list(H[3]), (list(H[3][0]), H[3][1]), H[3][:1], H[3] + H[3], (H[3][0], H[3][1][:1]),
                (H[3][0], H[3][0] + H[3][1]), (H[3][0], ((0, 0, 0, 0), (0, 0, 0))), (H[3][0], ((0, 0, 0, 0), [0] * 4)),
                (H[3][0], ((0, 0, 0, 0), (0, 0, 0, True))), (H[3][0], ((0, 0, 0, 0), 0)),
            ),
        },
    ),
    ("tables", "one_table", {"many": 2}, {}),
    ("tables", "nought_table", {"outs": 1, "ins": 2}, {"ins": NO_INTEGERS + (-1, 7, 10 ** 30)}),
    (
        "tables", "entry_at", {"table": TWO, "y": 1, "x": 0},
        {"y": NO_INTEGERS + (-1, 2, 10 ** 30), "x": NO_INTEGERS + (-1, 1, 10 ** 30)},
    ),
    ("products", "chained", {"first": TWO, "second": H}, {"second": NO_TABLES + (TWO, NO_WIRES)}),
    ("products", "side_by_side", {"low": TWO, "high": H}, {"high": NO_TABLES}),
    ("products", "mirrored", {"table": TWO}, {}),
    ("products", "added", {"one": H, "other": ONE_WIRE}, {"other": NO_TABLES + (TWO, NO_WIRES)}),
    ("scaling", "scaled", {"table": H, "many": -3}, {"many": NO_INTEGERS + (-61, 61, 10 ** 30)}),
    ("scaling", "turned", {"table": H, "turn": 3}, {"turn": NO_TURNS}),
    ("scaling", "negative", {"table": H}, {}),
    (
        "shifting", "shifted", {"table": H, "flips": (1,), "signs": (0,), "turns": (5,)},
        {"flips": NO_BITS_OF_ONE, "signs": NO_BITS_OF_ONE, "turns": NO_TURNS_OF_ONE},
    ),
    ("shifting", "column_of", {"table": H, "x": 1}, {"x": NO_INTEGERS + (-1, 2, 10 ** 30)}),
    ("shifting", "on_plus", {"table": H}, {}),
    ("likeness", "is_nought", {"table": H}, {}),
    ("likeness", "alike", {"one": H, "other": H}, {"other": NO_TABLES}),
    ("likeness", "square_of", {"table": TWO}, {}),
    ("likeness", "number_of", {"table": ONE_WIRE}, {}),
    ("datatexts", "data_text", {"thing": (1, "a", ())}, {}),
    ("datatexts", "read_data", {"text": "(1, (), (\"a\",))"}, {}),
    ("booknames", "is_name", {"thing": "a"}, {}),
    ("booknames", "is_book", {"thing": BOOK}, {}),
    ("booknames", "part_names", {"book": BOOK}, {}),
    ("exprs", "read_expr", {"text": "1 + i"}, {}),
    ("exprs", "expr_text", {"expr": EXPR}, {}),
    ("exprs", "is_expr", {"thing": EXPR}, {}),
    ("exprs", "worth_of", {"expr": EXPR, "names": (("i", 4), ("j", 10 ** 30))}, {"names": NO_WORTHS}),
    ("bookreader", "read_book", {"text": "part p a\nend"}, {}),
    ("booktexts", "book_text", {"book": BOOK}, {}),
    ("gatekinds", "is_circuit", {"thing": (1, (("h", 0),))}, {}),
    (
        "gatekinds", "circuit_of", {"wires": 2, "gates": (("cz", 0, 1), ("turn", 3, 1))},
        {
            "wires": NO_INTEGERS + (-1, 7, 10 ** 30),
            "gates": (
                None, 0, "", [], [("h", 0)], ("h", 0), (["h", 0],), (("h", 2),), (("h", -1),), (("h", True),),
                (("h",),), (("h", 0, 1),), (("H", 0),), (("x", 0),), (("turn", 0, 0),), (("turn", 8, 0),),
                (("turn", True, 0),), (("turn", 1, 2),), (("turn", 1),), (("cz", 0, 0),), (("cz", 0, 2),),
                (("cz", 0, True),), (("cz", 0, 1, 2),), (("cz", 0),), (("ccz", 0, 1, 2),), ((1, 0, 1),), (((), 0, 1),),
                (("cx", 1, 1),), (("swap", 1, 1),), (("swap", False, 1),), (None,), ((),), (("h", 0), None),
            ),
        },
    ),
    (
        "gatekinds", "ccz_gates", {"one": 0, "other": 5, "third": 2},
        {"other": NO_INTEGERS + (-1, 0, 6), "third": NO_INTEGERS + (-1, 0, 6)},
    ),
    (
        "gatetables", "gate_table", {"wires": 2, "gate": ("cx", 1, 0)},
        {"gate": NEVER + (["cx", 1, 0], ("cx", 1, 1), ("cx", 1, 2), ("cx", 1, False), ("h", 2), ("x", 0), ("turn", 0, 0),
                          ("turn", 8, 0), ("turn", 1, 2), (("h", 0),))},
    ),
    ("gatetables", "plain_table", {"circuit": (2, (("h", 0), ("cx", 0, 1)))}, {}),
    ("circuitchanges", "inverse", {"circuit": (2, (("h", 0), ("turn", 3, 1)))}, {}),
    (
        "circuitchanges", "chained_circuits", {"first": (2, (("h", 0),)), "second": (2, (("h", 1),))},
        {"second": NO_CIRCUITS + ((1, ()), (3, ()), (0, ()))},
    ),
    (
        "circuitchanges", "beside_circuits", {"low": (2, (("h", 0),)), "high": (4, (("cz", 3, 1),))},
        {"high": NO_CIRCUITS + ((5, ()), (6, ()))},
    ),
    ("circuitchanges", "odd_turns", {"circuit": (1, (("turn", 3, 0),))}, {}),
    ("circuitchanges", "h_number", {"circuit": (1, (("h", 0),))}, {}),
    ("flattening", "flat", {"book": BOOK, "name": "p"}, {"name": NO_PARTS}),
    ("flattening", "wire_names", {"book": BOOK, "name": "p"}, {"name": NO_PARTS}),
    ("circuitbooks", "circuit_text", {"circuit": (2, (("h", 0), ("turn", 3, 1)))}, {}),
    ("webkinds", "is_web", {"thing": ROW}, {}),
    (
        "webkinds", "web_of", {"dots": (2, 0, 1), "ties": ((2, 0), (0, 1)), "ins": (1, 0), "outs": (2,)},
        {
            "dots": (None, 0, "", [], [2, 0, 1], (0, 0), (0, 10000), (0, -1), (0, True), (0, "1"), (0, (1,))),
            "ties": (
                None, 0, "", [], [(0, 1)], (0, 1), ([0, 1],), ((0, 0),), ((0, 3),), ((0,),), ((0, 1, 2),),
                ((0, True),), ((False, 1),), ((0, 1), None), ((0, "1"),), ((0, 1), (1, 3)),
            ),
            "ins": (None, 0, "", [], [0], (0, 0), (3,), (True,), (None,), ((0,),), ("0",)),
            "outs": (None, 0, "", [], [0], (0, 0), (3,), (True,), (None,), ((0,),), ("0",)),
        },
    ),
    ("webkinds", "looked_of", {"web": ROW}, {}),
    ("webkinds", "made_of", {"web": ROW}, {}),
    ("webkinds", "inner_of", {"web": ROW}, {}),
    ("webkinds", "near_of", {"web": ROW, "dot": 1}, {"dot": NO_DOTS_OF_ROW}),
    ("webkinds", "is_even", {"web": ROW}, {}),
    ("webchecker", "lets_web", {"thing": ROW}, {}),
    ("oddlots", "lot_sum", {"one": (0, 3), "other": (3, 9999)}, {"other": NO_LOTS}),
    ("oddlots", "odd_lot", {"web": ROW, "lot": (0, 1)}, {"lot": NO_LOTS_OF_ROW}),
    ("oddlots", "ties_within", {"web": ROW, "lot": (0, 1)}, {"lot": NO_LOTS_OF_ROW}),
    (
        "oddlots", "is_even_into", {"web": ROW, "dot": 0, "lot": (0, 1)},
        {"dot": NO_DOTS_OF_ROW, "lot": NO_LOTS_OF_ROW},
    ),
    (
        "webchanges", "toggled", {"web": ROW, "one": 2, "other": 0},
        {"one": NO_DOTS_OF_ROW, "other": NO_DOTS_OF_ROW + (2,)},
    ),
    ("webchanges", "with_dot", {"web": ROW, "dot": 9999}, {"dot": NO_INTEGERS + (-1, 0, 1, 2, 10000)}),
    ("webchanges", "without_dot", {"web": ROW, "dot": 1}, {"dot": NO_DOTS_OF_ROW + (0, 2)}),
    ("webchanges", "turned_web", {"web": ROW}, {}),
    ("webchanges", "put_in", {"web": ROW, "lot": (1, 2)}, {"lot": NO_LOTS_OF_ROW + ((0,), (0, 1))}),
    (
        "webchanges", "renamed_web", {"web": ROW, "names": (5, 9999, 0)},
        {"names": NEVER + ([5, 9, 0], (5, 9), (5, 9, 0, 1), (5, 5, 0), (5, 10000, 0), (5, -1, 0), (5, True, 0))},
    ),
    ("plankinds", "is_plan", {"thing": (ROW, (1, 2, 3))}, {}),
    ("plankinds", "angle_of", {"plan": (ROW, (1, 2, 3)), "dot": 1}, {"dot": NO_DOTS_OF_ROW}),
    (
        "plankinds", "with_angle", {"plan": (ROW, (1, 2, 3)), "dot": 1, "turn": 7},
        {"dot": NO_DOTS_OF_ROW, "turn": NO_TURNS},
    ),
    (
        "plankinds", "more_angle", {"plan": (ROW, (1, 2, 3)), "lot": (0, 2), "turn": 7},
        {"lot": NO_LOTS_OF_ROW, "turn": NO_TURNS},
    ),
    ("plankinds", "odd_angles", {"plan": (ROW, (1, 2, 3))}, {}),
    ("plansums", "sums_of", {"plan": (TRI, (1, 2, 3))}, {}),
    ("plansums", "map_of", {"plan": (TRI, (1, 2, 3))}, {}),
    (
        "alongsums", "sums_along", {"plan": (TRI, (1, 2, 3)), "dots": (1, 2, 0)},
        {"dots": NEVER + ([1, 2, 0], (1, 2), (1, 2, 0, 3), (1, 1, 0), (1, 2, 2, 0), (1, 2, 3), (True, 2, 0))},
    ),
    (
        "alongsums", "live_along", {"web": TRI, "dots": (1, 2, 0)},
        {"dots": NEVER + ([1, 2, 0], (1, 2), (1, 2, 0, 3), (1, 1, 0), (1, 2, 2, 0), (1, 2, 3), (True, 2, 0))},
    ),
    (
        "planjoins", "chained_plans", {"first": (ROW, (1, 2, 3)), "second": (TRI, (4, 5, 6))},
        {"second": NO_PLANS + ((PLUS, (0, 0)), (EMPTY, ()))},
    ),
    ("planjoins", "beside_plans", {"low": (ROW, (1, 2, 3)), "high": (TRI, (4, 5, 6))}, {"high": NO_PLANS}),
    ("planjoins", "turned_plan", {"plan": (ROW, (1, 2, 3))}, {}),
    (
        "planjoins", "renamed_plan", {"plan": (ROW, (1, 2, 3)), "names": (5, 9999, 0)},
        {"names": NEVER + ([5, 9, 0], (5, 9), (5, 9, 0, 1), (5, 5, 0), (5, 10000, 0), (5, -1, 0), (5, True, 0))},
    ),
    ("circuitplans", "circuit_plan", {"circuit": (2, (("h", 0), ("cx", 0, 1)))}, {}),
    ("plantexts", "plan_text", {"plan": (LINE, (1, 2, 3, 4))}, {}),
    ("plantexts", "read_plan", {"text": "web\ndots 0\nties\nins 0\nouts 0\nangles 7\nend"}, {}),
    ("programchecker", "is_program", {"thing": TWICE}, {}),
    ("programchecker", "lets_program", {"thing": TWICE}, {}),
    ("programkinds", "looks_of", {"program": TWICE}, {}),
    ("programkinds", "dots_of", {"program": TWICE}, {}),
    ("programkinds", "live_counts", {"program": TWICE}, {}),
    ("programkinds", "with_turns", {"program": TWICE, "turns": (7, 0)}, {"turns": NO_TURNS_OF_TWO}),
    ("states", "state_start", {"ins": (4, 0)}, {}),
    (
        "states", "state_after", {"state": STATE, "command": ("look", 5, 1, (3,), ()), "bit": 1},
        {"command": NO_COMMANDS, "bit": NO_INTEGERS + (-1, 2, 10 ** 30)},
    ),
    ("branches", "branch_of", {"program": TWICE, "outcomes": (1, 0)}, {"outcomes": NO_BITS_OF_TWO}),
    ("branches", "branches_of", {"program": TWICE}, {}),
    ("branches", "chance_of", {"program": TWICE, "outcomes": (1, 0)}, {"outcomes": NO_BITS_OF_TWO}),
    ("rightness", "is_right", {"program": TWICE}, {}),
    ("rightness", "mapped", {"program": STEP}, {}),
    ("rightness", "right_at", {"program": TWICE, "turns": (7, 0)}, {"turns": NO_TURNS_OF_TWO}),
    ("compiling", "compiled", {"circuit": (2, (("h", 0), ("cx", 0, 1)))}, {}),
    ("plainprograms", "plain_program", {"plan": (ROW, (1, 2, 3))}, {}),
    # With turns that are not 0 the first program is not usable, though it is as stated.
    (
        "programjoins", "chained_programs", {"first": STEP, "second": TWICE},
        {
            "first": (TWICE[:3] + ((1,),), STEP[:3] + ((7,),)),
            "second": NO_PROGRAMS + (((), (), (), ()), ((0, 1), (1, 0), (), (0, 0))),
        },
    ),
    ("programjoins", "beside_programs", {"low": STEP, "high": TWICE}, {"high": NO_PROGRAMS}),
    ("programjoins", "renamed_program", {"program": TWICE, "names": (5, 9999, 0)}, {"names": NO_NAMES_OF_THREE}),
    ("programtexts", "program_text", {"program": TWICE}, {}),
    ("programtexts", "read_program", {"text": "program\nins 0\nlook 0 7 waits adds\nouts\nturns\nend"}, {}),
    ("accountkinds", "is_account", {"thing": HALF}, {}),
    ("accountkinds", "plan_in", {"account": HALF}, {}),
    ("accountkinds", "waits_at", {"account": HALF, "dot": 1}, {"dot": NO_DOTS_OF_ROW + (2,)}),
    ("accountkinds", "arrows_in", {"account": HALF}, {}),
    ("accounts", "account_of", {"program": TWICE}, {}),
    ("accounts", "names_of", {"program": TWICE}, {}),
    ("newoutcomes", "new_outcomes", {"program": TWICE, "outcomes": (1, 0)}, {"outcomes": NO_BITS_OF_TWO}),
    ("newoutcomes", "old_outcomes", {"program": TWICE, "outcomes": (1, 0)}, {"outcomes": NO_BITS_OF_TWO}),
    ("accountbranches", "account_branch", {"account": HALF, "outcomes": (1, 0)}, {"outcomes": NO_BITS_OF_TWO}),
    ("accountbranches", "account_right", {"account": HALF}, {}),
    ("standards", "program_of", {"account": HALF}, {}),
    ("standards", "standard_of", {"program": TWICE}, {}),
    ("standards", "apart_of", {"one": HALF, "other": (*HALF[:4], ((),))}, {"other": NO_ACCOUNTS}),
    ("steps", "steps_of", {"program": TWICE}, {}),
    ("steps", "step_done", {"program": TWICE, "step": ("shift", 5)}, {"step": NO_STEPS}),
    (
        "steps", "step_outcomes", {"program": TWICE, "step": ("shift", 5), "outcomes": (1, 0)},
        {"step": NO_STEPS, "outcomes": NO_BITS_OF_TWO},
    ),
    ("leading", "standard_steps", {"program": TWICE}, {}),
    ("leading", "led_together", {"one": TWICE, "other": STEP}, {"other": NO_PROGRAMS}),
    ("stepchecker", "lets_steps", {"program": TWICE, "thing": (("swap", 2), ("shift", 5))}, {}),
    ("bitrows", "parity", {"number": 11}, {}),
    ("bitrows", "places_of", {"number": 11}, {}),
    ("bitrows", "number_of_places", {"places": (0, 79)}, {}),
    ("bitrows", "sum_of_rows", {"rows": ROWS}, {}),
    ("solving", "solve_rows", {"rows": ROWS, "target": 6}, {"target": NO_INTEGERS + (-1,)}),
    ("solving", "lets_solved", {"rows": ROWS, "target": 6, "thing": ("sum", (0, 1))}, {"target": NO_INTEGERS + (-1,)}),
    ("kernels", "kernel_of", {"rows": ROWS}, {}),
    ("kernels", "rank_of", {"rows": ROWS}, {}),
    # Rows that are too great are not usable, though they are rows.
    ("squares", "inverse_rows", {"rows": (2, 3)}, {"rows": ((2,), (4, 1), (1, 4), (0, 2 ** 80), (1, 2, 8))}),
    (
        "squares", "product_rows", {"rows": (3, 4, 0), "others": (1, 2, 4)},
        {"others": NEVER + ([1, 2, 4], (1, 2), (1,), (1, 2, True), (False, 2, 4), (1, -2, 4), (1, "2", 4), (1, (2,), 4))},
    ),
    ("squares", "flipped_rows", {"rows": (3, 4, 0), "wide": 3}, {"wide": NO_INTEGERS + (-1,)}),
    ("arrowkinds", "is_arrows", {"thing": ARROWS}, {}),
    ("arrowkinds", "dots_in", {"arrows": ARROWS}, {}),
    ("arrowkinds", "arrows_back", {"arrows": ARROWS}, {}),
    ("heights", "heights_of", {"dots": (0, 1, 2), "arrows": ARROWS}, {"arrows": NO_ARROWS}),
    (
        "heights", "longest_chain", {"dots": (0, 1, 2), "arrows": ARROWS},
        {"arrows": NO_ARROWS + (((0, 0),), ((0, 1), (1, 0)))},
    ),
    ("rings", "shortest_ring", {"dots": (0, 1, 2), "arrows": ARROWS}, {"arrows": NO_ARROWS}),
    ("linear", "linear_of", {"dots": (0, 1, 2), "arrows": ARROWS}, {"arrows": NO_ARROWS}),
    ("linear", "keeps_arrows", {"order": (2, 0, 1), "arrows": ARROWS}, {"arrows": NO_ARROWS}),
    ("linear", "linears_of", {"dots": (0, 1, 2), "arrows": ARROWS[:1]}, {"arrows": NO_ARROWS}),
    ("linear", "come_from", {"arrows": ARROWS, "dot": 9999}, {"dot": NO_INTEGERS + (-1, 10000)}),
    ("flowkinds", "is_flow", {"web": ROW, "thing": ((0, (1,)), (1, (2,)))}, {}),
    ("flowkinds", "lets_flow", {"web": ROW, "thing": ((0, (1,)), (1, (2,)))}, {}),
    ("flowkinds", "arrows_of", {"web": ROW, "flow": ((0, (1,)), (1, (2,)))}, {"flow": NO_FLOWS_OF_ROW}),
    ("flowkinds", "flow_rounds", {"web": ROW, "flow": ((0, (1,)), (1, (2,)))}, {"flow": NO_FLOWS_OF_ROW}),
    (
        "focusing", "focused", {"web": ROW, "order": (0, 1), "lots": ((1, 2), (2,))},
        {
            "order": NEVER + ([0, 1], (0,), (1,), (0, 1, 2), (0, 2), (0, 0), (False, 1), (0, True), (0, "1"), (0, 3)),
            "lots": (None, True, 0, "", "ab", (), [], ((1, 2),), [(1, 2), (2,)], ((1, 2), (2,), (2,)), (((1, 2), (2,)),)),
        },
    ),
    ("tellinglots", "lets_telling", {"web": TRI, "thing": (0, 1)}, {}),
    ("tellinglots", "is_idle", {"web": TRI, "lot": (0, 1)}, {"lot": NO_TELLING_OF_TRI}),
    ("tellinglots", "told_angles", {"web": TRI, "lot": (0, 1)}, {"lot": NO_TELLING_OF_TRI}),
    (
        "tellinglots", "told_sign", {"web": SEEN, "lot": (1,)},
        {"lot": NO_LOTS + ((), (0,), (0, 1), (2,), [1], (True,), ((1,),))},
    ),
    ("telling", "telling_lots", {"web": TRI}, {}),
    ("telling", "kind_of", {"web": TRI}, {}),
    ("shutlots", "shut_of", {"web": TRI}, {}),
    ("shutlots", "lets_shut", {"web": TRI, "thing": ((0, 1), ((0, (0, 1)), (1, (0, 1))))}, {}),
    ("shutlots", "lets_paper", {"web": TRI, "thing": ("telling", (0, 1))}, {}),
    ("settling", "settle", {"web": TRI}, {}),
    ("settling", "flow_of", {"web": ROW}, {}),
    ("layers", "layers_of", {"web": ROW}, {}),
    ("layers", "fewest_rounds", {"web": ROW}, {}),
    ("layers", "fewest_flow", {"web": ROW}, {}),
    ("floors", "floors_of", {"web": LINE}, {}),
    ("floors", "lets_floors", {"web": ROW, "thing": ((0, 2, (0,)), (1, 1, ()))}, {}),
    ("widening", "widened", {"web": PLUS}, {}),
    ("chains", "chain_of", {"web": LINE}, {}),
    ("orders", "allowed", {"web": ROW, "order": (1, 0)}, {"order": NO_ORDERS_OF_ROW}),
    ("orders", "is_let", {"web": ROW, "order": (1, 0)}, {"order": NO_ORDERS_OF_ROW}),
    (
        "orders", "lets_allowed", {"web": ROW, "order": (1, 0), "thing": ("barred", 1, (0,))},
        {"order": NO_ORDERS_OF_ROW},
    ),
    ("rightaccounts", "right_account", {"plan": ROW_PLAN, "flow": ROW_FLOW}, {"flow": NO_FLOWS_OF_ROW}),
    ("rightaccounts", "right_program", {"plan": ROW_PLAN, "flow": ROW_FLOW}, {"flow": NO_FLOWS_OF_ROW}),
    ("rightaccounts", "wrong_lot", {"account": (*HALF[:4], ((),))}, {}),
    ("rightaccounts", "flow_in", {"account": HALF}, {}),
    ("quicks", "quick_account", {"plan": ROW_PLAN, "flow": ROW_FLOW}, {"flow": NO_FLOWS_OF_ROW}),
    ("quicks", "quick_program", {"plan": ROW_PLAN, "flow": ROW_FLOW}, {"flow": NO_FLOWS_OF_ROW}),
    ("lookrounds", "rounds_by", {"account": HALF}, {}),
    ("lookrounds", "many_rounds", {"account": HALF}, {}),
    (
        "machines", "Machine", {"plan": ROW_PLAN, "flow": ROW_FLOW, "fast": True},
        {"plan": NO_PLANS, "flow": NO_FLOWS_OF_ROW, "fast": NO_TRUTHS},
    ),
    ("lazyruns", "lazy_events", {"web": ROW, "order": (1, 0)}, {"order": NO_ORDERS_OF_ROW}),
    (
        "lazyruns", "lazy_run", {"plan": ROW_PLAN, "flow": ROW_FLOW, "fast": False, "order": (0, 1), "outcomes": (1, 0)},
        {
            "flow": NO_FLOWS_OF_ROW, "fast": NO_TRUTHS, "order": NO_ORDERS_OF_ROW + ((1, 0),),
            "outcomes": NO_BITS_OF_TWO,
        },
    ),
    ("livecounts", "live_at", {"web": ROW, "order": (1, 0)}, {"order": NO_ORDERS_OF_ROW}),
    ("livecounts", "peak_of", {"web": ROW, "order": (1, 0)}, {"order": NO_ORDERS_OF_ROW}),
    ("leastpeaks", "least_peak", {"account": HALF}, {}),
    ("leastpeaks", "lets_peak", {"account": HALF, "thing": (2, (0, 1), ("family", ((),)))}, {}),
    ("lies", "lied", {"plan": ROW_PLAN, "lot": (0, 1)}, {"lot": NO_LOTS_OF_ROW + ((2,), (0, 2))}),
    (
        "lies", "shown_for", {"account": HALF, "outcomes": (1, 0), "lot": (0,)},
        {"outcomes": NO_BITS_OF_TWO, "lot": NO_LOTS_OF_ROW + ((2,), (0, 2))},
    ),
    ("quarters", "quarter_done", {"plan": ROW_PLAN, "dot": 1}, {"dot": NO_DOTS_OF_ROW + (0, 2)}),
    (
        "halves", "halves_done", {"plan": LINE_PLAN, "one": 1, "other": 2},
        {"one": NO_INTEGERS + (-1, 0, 2, 3, 4, 9999), "other": NO_INTEGERS + (-1, 0, 1, 3, 4, 9999)},
    ),
    (
        "merges", "merge_done", {"plan": LINE_PLAN, "dot": 1, "inner": 2, "other": 0},
        {
            "dot": NO_INTEGERS + (-1, 0, 3, 4, 9999), "inner": NO_INTEGERS + (-1, 0, 1, 3, 4, 9999),
            "other": NO_INTEGERS + (-1, 1, 2, 3, 4, 9999),
        },
    ),
    ("rules", "rules_of", {"plan": LINE_PLAN}, {}),
    ("rules", "rule_done", {"plan": LINE_PLAN, "rule": ("merge", 1, 2, 0)}, {"rule": NO_RULES}),
    ("shortening", "shortened", {"plan": LINE_PLAN}, {}),
    ("shortening", "lets_rules", {"plan": LINE_PLAN, "thing": (("merge", 1, 2, 0),)}, {}),
    ("bounds", "odd_inner", {"plan": LINE_PLAN}, {}),
    ("bounds", "most_left", {"plan": LINE_PLAN}, {}),
    ("backing", "circuit_back", {"plan": LINE_PLAN}, {}),
    ("backing", "shorter_circuit", {"circuit": (2, (("h", 0), ("cx", 0, 1)))}, {}),
    ("samemaps", "maps_alike", {"first": ROW_PLAN, "second": LINE_PLAN}, {"second": NO_PLANS}),
    ("secrets", "is_secrets", {"web": ROW, "thing": ROW_SECRETS}, {}),
    ("secrets", "sent_turns", {"web": ROW, "secrets": ROW_SECRETS}, {"secrets": NO_SECRETS_OF_ROW}),
    (
        "clients", "Client", {"plan": ROW_PLAN, "flow": ROW_FLOW, "secrets": ROW_SECRETS},
        {"plan": NO_PLANS, "flow": NO_FLOWS_OF_ROW, "secrets": NO_SECRETS_OF_ROW},
    ),
    ("workers", "Worker", {"web": ROW, "sent": (3, 0)}, {"web": NO_WEBS, "sent": NO_TURNS_OF_TWO}),
    (
        "seenby", "secrets_for",
        {"plan": ROW_PLAN, "flow": ROW_FLOW, "order": (0, 1), "asked": (1, 7), "answers": (0, 1)},
        {
            "flow": NO_FLOWS_OF_ROW, "order": NO_ORDERS_OF_ROW + ((1, 0),), "asked": NO_TURNS_OF_TWO,
            "answers": NO_BITS_OF_TWO,
        },
    ),
    (
        "seenby", "sent_sum", {"web": ROW, "secrets": (ROW_SECRETS, ROW_SECRETS)},
        {"secrets": (None, True, 0, "", [], ROW_SECRETS, [ROW_SECRETS], (list(ROW_SECRETS),), (ROW_SECRETS, ()), ((),))},
    ),
    (
        "blindruns", "asked_turns",
        {"plan": ROW_PLAN, "flow": ROW_FLOW, "order": (0, 1), "secrets": ROW_SECRETS, "answers": (0, 1)},
        {
            "flow": NO_FLOWS_OF_ROW, "order": NO_ORDERS_OF_ROW + ((1, 0),), "secrets": NO_SECRETS_OF_ROW,
            "answers": NO_BITS_OF_TWO,
        },
    ),
    (
        "blindruns", "blind_table",
        {"plan": ROW_PLAN, "flow": ROW_FLOW, "order": (0, 1), "secrets": ROW_SECRETS, "answers": (0, 1)},
        {
            "flow": NO_FLOWS_OF_ROW, "order": NO_ORDERS_OF_ROW + ((1, 0),), "secrets": NO_SECRETS_OF_ROW,
            "answers": NO_BITS_OF_TWO,
        },
    ),
    ("desk", "Desk", {}, {}),
)


def function_of(file, name):
    return getattr(importlib.import_module(f"lookundone.{file}"), name)


def shown(thing):
    """The thing, or all that an object keeps, told by tuples."""
    return (type(thing).__name__, kept_in(vars(thing))) if hasattr(thing, "__dict__") else thing


def kept_in(thing):
    """What an object keeps, dicts and lists told by tuples."""
    if isinstance(thing, dict):
        return ("dict", *[(key, kept_in(value)) for key, value in thing.items()])
    if isinstance(thing, (list, tuple)):
        return (type(thing).__name__, *map(kept_in, thing))
    return shown(thing)


class ArgumentsTest(StrictCase):
    def test_each_function_is_here(self):
        from tests.test_interface import INTERFACE
        listed = [(file, line.partition("(")[0]) for file, told in INTERFACE.items() for line in told]
        self.assertEqual([(file, name) for file, name, _, _ in CASES], listed)

    def test_each_later_parameter_is_asked(self):
        # These take any value there; their other parameters are the first ones.
        free = ("is_bits",)
        first_too = ("table_of", "circuit_of", "web_of", "chained_programs", "inverse_rows", "Machine", "Client", "Worker")
        checkers = (
            "lets_solved", "lets_steps", "is_flow", "lets_flow", "lets_telling", "lets_shut", "lets_paper", "lets_floors",
            "lets_allowed", "lets_peak", "lets_rules", "is_secrets",
        )
        for _, name, good, wrong in CASES:
            if name in checkers:
                self.assertEqual(list(wrong), [word for word in list(good)[1:] if word != "thing"], name)
            elif name not in free:
                self.assertEqual(list(wrong), list(good) if name in first_too else list(good)[1:], name)

    def test_by_position_and_by_name(self):
        for file, name, good, _ in CASES:
            call = function_of(file, name)
            arguments = copy.deepcopy(good)
            found = shown(call(**arguments))
            self.same(shown(call(*arguments.values())), found, name)
            backwards = dict(reversed(list(arguments.items())))
            self.same(shown(call(**backwards)), found, name)
            self.assertEqual(repr(arguments), repr(good), name)

    def test_wrong_parameters(self):
        for file, name, good, wrong in CASES:
            call = function_of(file, name)
            for word, values in wrong.items():
                for value in values:
                    with self.subTest(name=name, word=word, value=value):
                        arguments = {**good, word: value}
                        kept = repr(arguments)
                        self.refuses(word, call, **arguments)
                        self.refuses(word, call, *arguments.values())
                        self.assertEqual(repr(arguments), kept)

    def test_the_first_wrong_parameter(self):
        for file, name, good, wrong in CASES:
            call = function_of(file, name)
            for many in range(2, len(wrong) + 1):
                for words in itertools.combinations(wrong, many):
                    for k in range(max(len(wrong[word]) for word in words)):
                        arguments = {word: wrong[word][k % len(wrong[word])] for word in words}
                        with self.subTest(name=name, arguments=arguments):
                            self.refuses(words[0], call, **{**good, **arguments})
