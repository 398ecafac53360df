"""[3], [18], [20]: which tables are nought or alike, squares, tables that are one number."""

from lookundone.likeness import alike, is_nought, number_of, square_of
from lookundone.products import chained, mirrored
from lookundone.scaling import scaled, turned
from lookundone.sizes import sign_of
from lookundone.tables import entry_at, nought_table, one_table, table_of
from tests.common import H, NO_WIRES, ONE_WIRE, TWO, StrictCase
from tests.oracles import chained_worths, mirror_parts, worths
from tests.test_tables import some_tables

TABLES = some_tables(4, seed=18)


class LikenessTest(StrictCase):
    def test_noughts(self):
        for outs in range(3):
            for ins in range(3):
                self.assertIs(is_nought(nought_table(outs, ins)), True)
                for y in range(2 ** outs):
                    for x in range(2 ** ins):
                        rows = [[(0, 0, 0, 0)] * 2 ** ins for _ in range(2 ** outs)]
                        rows[y][x] = (0, 0, 0, 1)
                        self.assertIs(is_nought((outs, ins, 3, tuple(tuple(row) for row in rows))), False)
        self.assertIs(is_nought(H), False)

    def test_alike_for_all_units(self):
        for table in TABLES:
            for turn in range(8):
                wanted = None if is_nought(table) else turn
                self.same(alike(turned(table, turn), table), wanted)
                self.same(alike(table, turned(table, turn)), None if wanted is None else -turn % 8)

    def test_noughts_and_unlike_shapes_never_are(self):
        self.same(alike(nought_table(1, 1), nought_table(1, 1)), None)
        self.same(alike(nought_table(1, 1), H), None)
        self.same(alike(H, nought_table(1, 1)), None)
        self.same(alike(nought_table(0, 0), NO_WIRES), None)
        ones = ((1, 0, 0, 0),) * 4
        shapes = [(2, 0, 0, tuple((one,) for one in ones)), (0, 2, 0, (ones,)), (1, 1, 0, (ones[:2], ones[:2]))]
        for one in shapes:
            for other in shapes:
                self.same(alike(one, other), 0 if one is other else None)

    def test_alike_but_for_one_entry_or_a_power(self):
        rows = [[(1, 0, 0, 0), (0, 1, 0, 0)], [(1, 1, 0, 0), (0, 0, 0, 0)]]
        one = table_of(1, 1, 2, tuple(tuple(row) for row in rows))
        for y in range(2):
            for x in range(2):
                for turn in range(1, 8):
                    changed = [list(row) for row in turned(one, turn)[3]]
                    changed[y][x] = (5, 0, 0, 0)
                    other = table_of(1, 1, 2, tuple(tuple(row) for row in changed))
                    self.same(alike(one, other), None)
                    self.same(alike(other, one), None)
        self.same(alike(one, scaled(one, 1)), None)
        self.same(alike(one, scaled(one, -2)), None)
        mixed = table_of(1, 1, 2, (turned(one, 1)[3][0], turned(one, 2)[3][1]))
        self.same(alike(mixed, one), None)

    def test_squares(self):
        self.same(square_of(H), ONE_WIRE)
        self.same(square_of(TWO), (0, 0, 2, (((3, 0, 0, 0),),)))
        self.same(square_of(mirrored(TWO))[:3], (1, 1, 2))
        for table in TABLES:
            found = square_of(table)
            self.same(found, chained(table, mirrored(table)))
            self.same(found, mirrored(found))
            before = worths(table)
            back = [[mirror_parts(before[y][x]) for y in range(2 ** table[0])] for x in range(2 ** table[1])]
            self.assertEqual(worths(found), chained_worths(before, back, 2 ** table[0], 2 ** table[1]))

    def test_chances_are_never_below_nought(self):
        for table in TABLES:
            for x in range(2 ** table[1]):
                (whole, part, none, back), _ = entry_at(square_of(table), x, x)
                self.assertEqual((none, back), (0, -part))
                self.assertGreaterEqual(sign_of(whole, part), 0)

    def test_numbers(self):
        self.same(number_of(ONE_WIRE), ((1, 0, 0, 0), 0))
        self.same(number_of(NO_WIRES), ((1, 0, 0, 0), 0))
        for many in range(5):
            self.same(number_of(nought_table(many, many)), ((0, 0, 0, 0), 0))
            self.same(number_of(scaled(turned(one_table(many), 3), -5)), ((0, 0, 0, 1), 5))
            self.same(number_of(scaled(one_table(many), 3)), ((0, 2, 0, -2), 0))
        self.same(number_of((0, 0, 2, (((3, 0, 0, 0),),))), ((3, 0, 0, 0), 2))

    def test_tables_that_are_no_number(self):
        self.same(number_of(H), None)
        for outs, ins in ((0, 1), (1, 0), (2, 1), (1, 2)):
            self.same(number_of(nought_table(outs, ins)), None)
        for y in range(4):
            for x in range(4):
                rows = [list(row) for row in one_table(2)[3]]
                rows[y][x] = (0, 1, 0, 0)
                self.same(number_of((2, 2, 0, tuple(tuple(row) for row in rows))), None)
        rows = [list(row) for row in nought_table(1, 1)[3]]
        rows[1][1] = (1, 0, 0, 0)
        self.same(number_of((1, 1, 1, tuple(tuple(row) for row in rows))), None)
