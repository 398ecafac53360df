"""The examples of the document, with just the answers that it prints."""

import unittest

from lookundone import errors
from tests.common import FAIR, H, HALF, LINE, PLUS, ROW, SEEN, STEP, TRI, TWICE

PLAN = (ROW, (1, 2, 0))
FLOW = ((0, (1,)), (1, (2,)))

# Each example: the names to import, as file and name, what is evaluated, and what is printed.
EXAMPLES = (
    ("kinds", 'is_lot((0, 3)), is_lot((3, 0)), is_bits(2, (0, True)), is_bits(0, ())', '(True, False, False, True)'),
    ("exacts", 'times((1, 1, 0, 0), (0, 1, 0, -1))', '(1, 1, 1, -1)'),
    ("exacts", 'by_root((1, 1, 1, -1)), by_root((1, 0, 0, 0)), turn_of((0, 0, 0, -1))', '((1, 1, 0, 0), None, 7)'),
    ("sizes", 'size_of((1, 1, 0, 0)), sign_of(3, -2), sign_of(1, -1)', '((2, 1), 1, -1)'),
    (
        "tables",
        '(lambda two: (two, entry_at(two, 1, 0)))(table_of(1, 0, 3, (((2, 0, 0, 0),), ((0, 2, 0, -2),))))',
        '((1, 0, 1, (((1, 0, 0, 0),), ((0, 1, 0, -1),))), ((1, 0, 0, 0), 0))',
    ),
    ("products tables", 'chained(H, H) == one_table(1)', 'True'),
    (
        "shifting tables",
        'shifted(one_table(1), (1,), (1,), (2,))',
        '(1, 1, 0, (((0, 0, 0, 0), (1, 0, 0, 0)), ((0, 0, -1, 0), (0, 0, 0, 0))))',
    ),
    ("shifting", 'on_plus(H)', '(1, 0, 0, (((1, 0, 0, 0),), ((0, 0, 0, 0),)))'),
    ("likeness scaling", 'alike(turned(H, 3), H), alike(H, turned(H, 3))', '(3, 5)'),
    (
        "likeness tables",
        'number_of(square_of(table_of(1, 0, 3, (((2, 0, 0, 0),), ((0, 2, 0, -2),))))), number_of(H), '
        'number_of(nought_table(1, 1))',
        '(((3, 0, 0, 0), 2), None, ((0, 0, 0, 0), 0))',
    ),
    ("datatexts", 'data_text((0, (1,), (), None, "a b"))', '\'(0, (1,), (), None, "a b")\''),
    ("datatexts", 'read_data("")', 'raises InvalidText(0, 0)'),
    ("datatexts", 'read_data("07")', 'raises InvalidText(0, 1)'),
    ("datatexts", 'read_data("-0")', 'raises InvalidText(0, 1)'),
    ("datatexts", 'read_data("(1")', 'raises InvalidText(0, 2)'),
    ("datatexts", 'read_data("(1)")', 'raises InvalidText(0, 2)'),
    ("datatexts", 'read_data("(1, 2,)")', 'raises InvalidText(0, 6)'),
    ("datatexts", 'read_data("(" * 31)', 'raises InvalidText(0, 30)'),
    ("exprs", 'expr_text(read_expr("a-(-(b))*(c+ 2)"))', "'a - -b * (c + 2)'"),
    (
        "bookreader",
        'read_book("part p q[2] # two\\n turn 3 q[1]\\nend")',
        "(('part', 'p', (('q', 2),), (('turn', ('num', 3), ('item', 'q', ('num', 1))),)),)",
    ),
    ("bookreader", 'read_book("part p a\\n h a b\\nend")', 'raises InvalidText(1, 5)'),
    (
        "flattening bookreader",
        'flat(read_book("part p b a\\nback\\nx a\\nturn 3 b\\nend\\nend"), "p")',
        "(2, (('turn', 5, 0), ('h', 1), ('turn', 4, 1), ('h', 1)))",
    ),
    (
        "webkinds",
        'web_of((2, 0, 1), ((2, 1), (0, 2), (1, 0), (2, 0)), (0,), (2,))',
        '((0, 1, 2), ((0, 1), (1, 2)), (0,), (2,))',
    ),
    ("webchecker", 'lets_web(((0, 1, 2), ((0, 1), (0, 1)), (0,), (3,)))', "raises InvalidPaper('sequence', 1)"),
    ("oddlots", 'odd_lot(TRI, (0, 1))', '(0, 1)'),
    ("oddlots", 'odd_lot(ROW, (1,)), odd_lot(ROW, (2,))', '((0, 2), (1,))'),
    ("webchanges", 'renamed_web(ROW, (5, 9, 1))', '((1, 5, 9), ((1, 9), (5, 9)), (5,), (1,))'),
    ("plansums", 'sums_of((PLUS, (1, 0)))', '(1, 0, 0, (((1, 0, 0, -1),), ((1, 0, 0, 1),)))'),
    (
        "plansums",
        'sums_of((ROW, (0, 0, 0)))',
        '(1, 1, 0, (((2, 0, 0, 0), (0, 0, 0, 0)), ((0, 0, 0, 0), (2, 0, 0, 0))))',
    ),
    ("plansums tables", 'map_of((ROW, (0, 0, 0))) == one_table(1)', 'True'),
    ("alongsums", 'live_along(ROW, (1, 0, 2))', '(1, 2, 2)'),
    (
        "planjoins",
        'chained_plans((PLUS, (1, 0)), (ROW, (2, 4, 0)))',
        '(((0, 1, 2, 3), ((0, 1), (1, 2), (2, 3)), (), (3,)), (1, 2, 4, 0))',
    ),
    (
        "circuitplans",
        'circuit_plan((2, (("turn", 1, 0), ("cx", 1, 0))))',
        '(((0, 1, 2, 3), ((0, 2), (1, 2), (2, 3)), (0, 1), (3, 1)), (7, 0, 0, 0))',
    ),
    ("plantexts", 'plan_text((PLUS, (1, 0)))', "'web\\ndots 0 1\\nties 0-1\\nins\\nouts 1\\nangles 1 0\\nend'"),
    ("plantexts", 'read_plan("web\\ndots 0 1\\nties 0-2")', 'raises InvalidText(2, 0)'),
    (
        "programchecker",
        'lets_program(((0,), (1,), (("new", 1), ("look", 0, 0, (0,), ())), (0,)))',
        "raises InvalidPaper('lot', 1)",
    ),
    ("programkinds", 'live_counts(STEP)', '(2, 2, 1, 1)'),
    (
        "states",
        'state_after(state_start((4,)), ("look", 4, 1, (), ()), 1)',
        '((), ((4, 1),), (0, 1, 1, (((1, 0, 0, 0), (0, 0, 0, 1)),)))',
    ),
    ("branches", 'branch_of(STEP, (1,))', '(1, 1, 2, (((1, 0, 0, 0), (0, 1, 0, 0)), ((1, 0, 0, 0), (0, -1, 0, 0))))'),
    ("rightness", 'mapped((STEP[0], STEP[1], STEP[2][:3], STEP[3]))', 'raises NotRight((1,))'),
    ("compiling", 'compiled((1, (("turn", 1, 0), ("h", 0)))) == STEP', 'True'),
    (
        "programtexts",
        'program_text(STEP)',
        "'program\\nins 0\\nnew 1\\ntie 0 1\\nlook 0 7 waits adds\\nflip 1 by 0\\nouts 1\\nturns 0\\nend'",
    ),
    ("accountkinds", 'is_account(HALF), arrows_in(HALF), waits_at(HALF, 1)', '(True, ((0, 1),), (0,))'),
    ("accountkinds", 'is_account((ROW, (1, 2, 0), ((1,), (0,)), ((1,),), ((0,),)))', 'False'),
    ("accounts", 'names_of(TWICE)', '((0, (0,)), (1, (0, 1)))'),
    ("accounts", 'account_of(TWICE) == (ROW, (1, 2, 0), ((), (0,)), ((0, 1),), ((),))', 'True'),
    ("newoutcomes", 'new_outcomes(TWICE, (1, 0)), old_outcomes(TWICE, (1, 1))', '((1, 1), (1, 0))'),
    (
        "accounts accountbranches",
        'account_branch(account_of(STEP), (1,))',
        '(1, 1, 2, (((1, 0, 0, 0), (0, 1, 0, 0)), ((1, 0, 0, 0), (0, -1, 0, 0))))',
    ),
    (
        "standards",
        'standard_of(TWICE)[2][2:]',
        "(('tie', 0, 1), ('tie', 1, 2), ('look', 0, 1, (), ()), ('look', 1, 2, (0,), ()), ('flip', 2, (0, 1)))",
    ),
    (
        "accounts standards",
        'apart_of(account_of(STEP), account_of(TWICE)), apart_of(HALF, account_of(TWICE))',
        "('outs', ('flip', 2))",
    ),
    ("steps", 'steps_of(TWICE)', "(('shift', 5), ('swap', 2))"),
    ("steps", 'step_done(TWICE, ("shift", 5))[2][5:]', "(('look', 1, 2, (0,), ()), ('flip', 2, (0, 1)))"),
    ("steps", 'step_outcomes(TWICE, ("shift", 5), (1, 0))', '(1, 1)'),
    (
        "stepchecker standards",
        'lets_steps(TWICE, (("swap", 2), ("swap", 1), ("swap", 3), ("shift", 5))) == standard_of(TWICE)',
        'True',
    ),
    ("leading", 'led_together(TWICE, STEP)', "('apart', 'outs')"),
    ("solving", 'solve_rows((3, 5), 6)', "('sum', (0, 1))"),
    ("squares", 'inverse_rows((2, 3))', '(3, 1)'),
    ("flowkinds", 'lets_flow(ROW, ((0, (1,)), (1, (2,)))), is_flow(ROW, ((0, (1, 2)), (1, (2,))))', '(2, False)'),
    (
        "flowkinds",
        'arrows_of(ROW, ((0, (1,)), (1, (2,)))), flow_rounds(ROW, ((0, (1,)), (1, (2,))))',
        '(((0, 1),), ((0, 1), (1, 2)))',
    ),
    ("focusing", 'focused(ROW, (0, 1), ((1, 2), (2,)))', '((0, (1,)), (1, (2,)))'),
    (
        "tellinglots",
        'is_idle(SEEN, (1,)), told_angles(SEEN, (1,)), told_sign(SEEN, (1,))',
        '(False, ((1, 0),), ((0,), 0))',
    ),
    (
        "telling",
        'telling_lots(TRI), kind_of(SEEN), kind_of(FAIR), kind_of(((0,), (), (), ()))',
        "(((0, 1),), 'telling', 'fair', 'idle')",
    ),
    ("shutlots", 'shut_of(TRI)', '((0, 1), ((0, (0, 1)), (1, (0, 1))))'),
    ("settling", 'settle(TRI)', "('telling', (0, 1))"),
    ("settling", 'flow_of(TRI)', "raises NoFlow(('telling', (0, 1)))"),
    (
        "layers", 'layers_of(ROW), fewest_rounds(ROW), layers_of(TRI)',
        '(((2,), (1, 2), (0, 1, 2)), 2, ((2,),))',
    ),
    ("floors", 'floors_of(ROW)', '((0, 2, (0,)), (1, 1, ()))'),
    ("widening", 'widened(PLUS)', '(0,)'),
    ("orders", 'allowed(ROW, (1, 0)), is_let(ROW, (0, 1))', "(('barred', 1, (0,)), True)"),
    ("rightaccounts", 'right_account(PLAN, FLOW)[2:]', '(((), (0,)), ((1,),), ((0,),))'),
    ("rightaccounts", 'wrong_lot((ROW, (1, 2, 0), ((), (0,)), ((1,),), ((),)))', "('sign', 0)"),
    ("quicks", 'quick_account(PLAN, FLOW)[2:]', '(((), ()), ((0, 1),), ((0,),))'),
    (
        "lookrounds rightaccounts quicks",
        'rounds_by(right_account(PLAN, FLOW)), many_rounds(quick_account(PLAN, FLOW))', '(((0, 1), (1, 2)), 1)',
    ),
    (
        "machines",
        '(lambda run: (run.tell(0, 1), (run.angle(1), run.ready()), run.tell(1, 0), run.ended()))('
        'Machine(PLAN, FLOW, False))',
        '(None, (6, (1,)), None, ((0,), (1,), (0,)))',
    ),
    (
        "lazyruns", 'lazy_events(ROW, (0, 1))',
        "(('new', 1), ('tie', 0, 1), ('look', 0), ('new', 2), ('tie', 1, 2), ('look', 1))",
    ),
    (
        "lazyruns scaling tables",
        'lazy_run((ROW, (0, 0, 0)), FLOW, False, (0, 1), (1, 0)) == scaled(one_table(1), -2)', 'True',
    ),
    ("livecounts", 'live_at(ROW, (0, 1)), live_at(ROW, (1, 0)), peak_of(ROW, (1, 0))', '((2, 2), (3, 2), 3)'),
    ("leastpeaks rightaccounts", 'least_peak(right_account(PLAN, FLOW))', "(2, (0, 1), ('family', ((),)))"),
    (
        "lies rightaccounts", 'lied(PLAN, (1,))[1], shown_for(right_account(PLAN, FLOW), (1, 0), (1,))',
        '((1, 6, 0), (1, 1))',
    ),
    ("quarters", 'quarter_done((ROW, (0, 2, 0)), 1)', '((((0, 2), ((0, 2),), (0,), (2,)), (6, 6)), 7)'),
    ("halves", 'halves_done((LINE, (0, 4, 0, 0)), 1, 2)', '((((0, 3), ((0, 3),), (0,), (3,)), (0, 4)), 0)'),
    ("merges", 'merge_done((LINE, (1, 4, 3, 5)), 1, 2, 0)', '((((0, 3), ((0, 3),), (0,), (3,)), (6, 1)), 5)'),
    ("rules", 'rules_of((LINE, (1, 4, 0, 5)))', "(('halves', 1, 2), ('merge', 1, 2, 0), ('merge', 2, 1, 3))"),
    (
        "shortening", 'shortened((LINE, (1, 6, 2, 5)))',
        "((((0, 2, 3), ((0, 2), (2, 3)), (0,), (3,)), (3, 4, 5)), (('quarter', 1),), 1)",
    ),
    (
        "backing", 'circuit_back((ROW, (1, 2, 3)))',
        "(1, (('turn', 7, 0), ('h', 0), ('turn', 6, 0), ('h', 0), ('turn', 5, 0)))",
    ),
    (
        "backing", 'circuit_back((((0, 1, 2, 3), ((0, 2), (1, 2), (1, 3)), (0, 1), (2, 3)), (0, 0, 0, 0)))',
        "(2, (('h', 1), ('h', 0), ('cx', 0, 1)))",
    ),
    (
        "clients",
        '(lambda client: ((client.sends(), client.ready(), client.asks(0), client.hears(0, 0)), '
        '(client.asks(1), client.hears(1, 1), client.ended())))'
        '(Client((ROW, (1, 2, 0)), ((0, (1,)), (1, (2,))), ((3, 1), (0, 0))))',
        '((((0, 3), (1, 0)), (0,), 0, None), (6, None, ((1,), (1,), (0,))))',
    ),
    (
        "workers",
        '(lambda worker: (worker.held(), (worker.looks(0, 1, 0), worker.outs_table())))(Worker(PLUS, (1,)))',
        '((2, 0, 2, (((1, 0, 0, 0),), ((0, 1, 0, 0),), ((1, 0, 0, 0),), ((0, -1, 0, 0),))), '
        '(None, (1, 0, 1, (((1, 0, 0, 0),), ((0, 0, 0, 0),)))))',
    ),
    ("seenby", 'secrets_for((PLUS, (0, 0)), ((0, (1,)),), (0,), (1,), (0,))', '(((1, 0),), ((5, 1),))'),
    (
        "seenby", 'sent_sum(PLUS, (((1, 0),), ((5, 1),)))',
        '(1, 1, 0, (((2, 0, 0, 0), (0, 0, 0, 0)), ((0, 0, 0, 0), (2, 0, 0, 0))))',
    ),
    (
        "desk", 'Desk().say("load web / dots 0 / ties / ins 0 / outs 0 / angles 1 / end")', "'dots 1'",
    ),
)


def names_of(files):
    """All names of these files of the package, and the webs of the document."""
    names = {
        "FAIR": FAIR, "FLOW": FLOW, "H": H, "HALF": HALF, "LINE": LINE, "PLAN": PLAN, "PLUS": PLUS, "ROW": ROW, "SEEN": SEEN, "STEP": STEP,
        "TRI": TRI, "TWICE": TWICE,
    }
    for name in files.split():
        names.update(vars(__import__(f"lookundone.{name}", fromlist=[name])))
    return names


def answer_of(files, told):
    """What the document would print for the example."""
    try:
        return repr(eval(told, names_of(files)))
    except errors.LookError as e:
        fields = ", ".join(repr(value) for value in vars(e).values())
        return f"raises {type(e).__name__}({fields})"


class ExamplesTest(unittest.TestCase):
    def test_examples(self):
        for files, told, printed in EXAMPLES:
            self.assertEqual(answer_of(files, told), printed, told)
