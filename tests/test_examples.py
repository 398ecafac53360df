"""The examples of the document, with just the answers that it prints."""

import unittest

from lookundone import errors
from tests.common import H, LINE, PLUS, ROW, TRI

# Each example: the names to import, as file and name, what is evaluated, and what is printed.
EXAMPLES = (
    ("kinds", 'is_lot((0, 3)), is_lot((3, 0)), is_bits(2, (0, True)), is_bits(0, ())', '(True, False, False, True)'),
    ("exacts", 'times((1, 1, 0, 0), (0, 1, 0, -1))', '(1, 1, 1, -1)'),
    ("exacts", 'by_root((1, 1, 1, -1)), by_root((1, 0, 0, 0)), turn_of((0, 0, 0, -1))', '((1, 1, 0, 0), None, 7)'),
    ("sizes", 'size_of((1, 1, 0, 0)), sign_of(3, -2), sign_of(1, -1)', '((2, 1), 1, -1)'),
    (
        "tables",
        '(lambda two: (two, entry_at(two, 1, 0)))(table_of(1, 0, 3, (((2, 0, 0, 0),), ((0, 2, 0, -2),))))',
        '((1, 0, 1, (((1, 0, 0, 0),), ((0, 1, 0, -1),))), ((1, 0, 0, 0), 0))',
    ),
    ("products tables", 'chained(H, H) == one_table(1)', 'True'),
    (
        "shifting tables",
        'shifted(one_table(1), (1,), (1,), (2,))',
        '(1, 1, 0, (((0, 0, 0, 0), (1, 0, 0, 0)), ((0, 0, -1, 0), (0, 0, 0, 0))))',
    ),
    ("shifting", 'on_plus(H)', '(1, 0, 0, (((1, 0, 0, 0),), ((0, 0, 0, 0),)))'),
    ("likeness scaling", 'alike(turned(H, 3), H), alike(H, turned(H, 3))', '(3, 5)'),
    (
        "likeness tables",
        'number_of(square_of(table_of(1, 0, 3, (((2, 0, 0, 0),), ((0, 2, 0, -2),))))), number_of(H), '
        'number_of(nought_table(1, 1))',
        '(((3, 0, 0, 0), 2), None, ((0, 0, 0, 0), 0))',
    ),
    ("datatexts", 'data_text((0, (1,), (), None, "a b"))', '\'(0, (1,), (), None, "a b")\''),
    ("datatexts", 'read_data("")', 'raises InvalidText(0, 0)'),
    ("datatexts", 'read_data("07")', 'raises InvalidText(0, 1)'),
    ("datatexts", 'read_data("-0")', 'raises InvalidText(0, 1)'),
    ("datatexts", 'read_data("(1")', 'raises InvalidText(0, 2)'),
    ("datatexts", 'read_data("(1)")', 'raises InvalidText(0, 2)'),
    ("datatexts", 'read_data("(1, 2,)")', 'raises InvalidText(0, 6)'),
    ("datatexts", 'read_data("(" * 31)', 'raises InvalidText(0, 30)'),
    ("exprs", 'expr_text(read_expr("a-(-(b))*(c+ 2)"))', "'a - -b * (c + 2)'"),
    (
        "bookreader",
        'read_book("part p q[2] # two\\n turn 3 q[1]\\nend")',
        "(('part', 'p', (('q', 2),), (('turn', ('num', 3), ('item', 'q', ('num', 1))),)),)",
    ),
    ("bookreader", 'read_book("part p a\\n h a b\\nend")', 'raises InvalidText(1, 5)'),
    (
        "flattening bookreader",
        'flat(read_book("part p b a\\nback\\nx a\\nturn 3 b\\nend\\nend"), "p")',
        "(2, (('turn', 5, 0), ('h', 1), ('turn', 4, 1), ('h', 1)))",
    ),
    (
        "webkinds",
        'web_of((2, 0, 1), ((2, 1), (0, 2), (1, 0), (2, 0)), (0,), (2,))',
        '((0, 1, 2), ((0, 1), (1, 2)), (0,), (2,))',
    ),
    ("webchecker", 'lets_web(((0, 1, 2), ((0, 1), (0, 1)), (0,), (3,)))', "raises InvalidPaper('sequence', 1)"),
    ("oddlots", 'odd_lot(TRI, (0, 1))', '(0, 1)'),
    ("oddlots", 'odd_lot(ROW, (1,)), odd_lot(ROW, (2,))', '((0, 2), (1,))'),
    ("webchanges", 'renamed_web(ROW, (5, 9, 1))', '((1, 5, 9), ((1, 9), (5, 9)), (5,), (1,))'),
    ("plansums", 'sums_of((PLUS, (1, 0)))', '(1, 0, 0, (((1, 0, 0, -1),), ((1, 0, 0, 1),)))'),
    (
        "plansums",
        'sums_of((ROW, (0, 0, 0)))',
        '(1, 1, 0, (((2, 0, 0, 0), (0, 0, 0, 0)), ((0, 0, 0, 0), (2, 0, 0, 0))))',
    ),
    ("plansums tables", 'map_of((ROW, (0, 0, 0))) == one_table(1)', 'True'),
    ("alongsums", 'live_along(ROW, (1, 0, 2))', '(1, 2, 2)'),
    (
        "planjoins",
        'chained_plans((PLUS, (1, 0)), (ROW, (2, 4, 0)))',
        '(((0, 1, 2, 3), ((0, 1), (1, 2), (2, 3)), (), (3,)), (1, 2, 4, 0))',
    ),
    (
        "circuitplans",
        'circuit_plan((2, (("turn", 1, 0), ("cx", 1, 0))))',
        '(((0, 1, 2, 3), ((0, 2), (1, 2), (2, 3)), (0, 1), (3, 1)), (7, 0, 0, 0))',
    ),
    ("plantexts", 'plan_text((PLUS, (1, 0)))', "'web\\ndots 0 1\\nties 0-1\\nins\\nouts 1\\nangles 1 0\\nend'"),
    ("plantexts", 'read_plan("web\\ndots 0 1\\nties 0-2")', 'raises InvalidText(2, 0)'),
)


def names_of(files):
    """All names of these files of the package, and the webs of the document."""
    names = {"H": H, "LINE": LINE, "PLUS": PLUS, "ROW": ROW, "TRI": TRI}
    for name in files.split():
        names.update(vars(__import__(f"lookundone.{name}", fromlist=[name])))
    return names


def answer_of(files, told):
    """What the document would print for the example."""
    try:
        return repr(eval(told, names_of(files)))
    except errors.LookError as e:
        fields = ", ".join(repr(value) for value in vars(e).values())
        return f"raises {type(e).__name__}({fields})"


class ExamplesTest(unittest.TestCase):
    def test_examples(self):
        for files, told, printed in EXAMPLES:
            self.assertEqual(answer_of(files, told), printed, told)
