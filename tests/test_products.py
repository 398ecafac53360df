"""[3], [16], [20]: tables one behind another, side by side, mirrored, added."""

import itertools

from lookundone.products import added, chained, mirrored, side_by_side
from lookundone.tables import is_table, nought_table, one_table, table_of
from tests.common import H, NO_WIRES, ONE_WIRE, TWO, StrictCase
from tests.oracles import chained_worths, is_in_one_form, mirror_parts, product, total, worths
from tests.test_tables import some_tables

TABLES = some_tables(3)


class ProductsTest(StrictCase):
    def is_right(self, table, outs, ins, wanted):
        self.assertTrue(is_table(table))
        self.assertTrue(is_in_one_form(table), table)
        self.same(table[:2], (outs, ins))
        self.assertEqual(worths(table), wanted)

    def test_chained(self):
        for first, second in itertools.product(TABLES, TABLES):
            if first[0] == second[1]:
                wanted = chained_worths(worths(first), worths(second), 2 ** first[0], 2 ** first[1])
                self.is_right(chained(first, second), second[0], first[1], wanted)
            else:
                self.refuses("second", chained, first, second)

    def test_chained_in_both_sequences(self):
        up = (1, 1, 0, (((1, 0, 0, 0), (2, 0, 0, 0)), ((0, 0, 0, 0), (0, 1, 0, 0))))
        down = (1, 1, 0, (((1, 0, 0, 0), (0, 0, 0, 0)), ((0, 0, 0, 3), (1, 0, 0, 0))))
        self.same(
            chained(up, down),
            (1, 1, 0, (((1, 0, 0, 0), (2, 0, 0, 0)), ((0, 0, 0, 3), (0, 1, 0, 6)))),
        )
        self.same(
            chained(down, up),
            (1, 1, 0, (((1, 0, 0, 6), (2, 0, 0, 0)), ((-3, 0, 0, 0), (0, 1, 0, 0)))),
        )

    def test_chained_without_outs_or_ins(self):
        self.same(chained(TWO, H), (1, 0, 2, (((1, 1, 0, -1),), ((1, -1, 0, 1),))))
        closed = (0, 1, 0, (((1, 0, 0, 0), (0, 0, 1, 0)),))
        self.same(chained(TWO, closed), (0, 0, 1, (((1, 1, 0, 1),),)))
        self.same(chained(NO_WIRES, TWO), TWO)
        self.same(chained(closed, TWO)[:2], (1, 1))
        self.same(chained(nought_table(1, 2), H), nought_table(1, 2))

    def test_the_table_one_changes_nothing(self):
        for table in TABLES:
            self.same(chained(table, one_table(table[0])), table)
            self.same(chained(one_table(table[1]), table), table)
            self.same(side_by_side(table, NO_WIRES), table)
            self.same(side_by_side(NO_WIRES, table), table)
            self.same(added(table, nought_table(*table[:2])), table)

    def test_side_by_side(self):
        for low, high in itertools.product(TABLES[::2], TABLES[1::2]):
            low_worths, high_worths = worths(low), worths(high)
            wanted = [
                [
                    product(low_worths[y % 2 ** low[0]][x % 2 ** low[1]], high_worths[y >> low[0]][x >> low[1]])
                    for x in range(2 ** (low[1] + high[1]))
                ]
                for y in range(2 ** (low[0] + high[0]))
            ]
            self.is_right(side_by_side(low, high), low[0] + high[0], low[1] + high[1], wanted)

    def test_low_has_the_low_places(self):
        low = (1, 2, 0, tuple(tuple((10 * y + x + 1, 0, 0, 0) for x in range(4)) for y in range(2)))
        high = (2, 1, 0, tuple(tuple((0, 100 * y + 10 * x + 1, 0, 0) for x in range(2)) for y in range(4)))
        table = side_by_side(low, high)
        self.same(table[:3], (3, 3, 0))
        self.same(table[3][0b110][0b101], (0, 2 * 311, 0, 0))
        self.same(table[3][0b011][0b010], (0, 13 * 101, 0, 0))

    def test_six_together(self):
        table = side_by_side(one_table(4), one_table(2))
        self.same(table, one_table(6))
        self.same(side_by_side(nought_table(6, 1), nought_table(0, 5)), nought_table(6, 6))

    def test_mirrored(self):
        self.same(mirrored(TWO), (0, 1, 1, (((1, 0, 0, 0), (0, 1, 0, -1)),)))
        self.same(mirrored((0, 1, 0, (((0, 1, 2, 3), (4, 0, 0, 0)),))), (1, 0, 0, (((0, -3, -2, -1),), ((4, 0, 0, 0),))))
        for table in TABLES:
            before = worths(table)
            wanted = [[mirror_parts(before[y][x]) for y in range(2 ** table[0])] for x in range(2 ** table[1])]
            self.is_right(mirrored(table), table[1], table[0], wanted)
            self.same(mirrored(mirrored(table)), table)

    def test_mirrored_turns_about_what_chained_does(self):
        for first, second in itertools.product(TABLES, TABLES):
            if first[0] == second[1]:
                self.same(mirrored(chained(first, second)), chained(mirrored(second), mirrored(first)))

    def test_added(self):
        for one, other in itertools.product(TABLES, TABLES):
            if one[:2] == other[:2]:
                pairs = zip(worths(one), worths(other))
                wanted = [[total(parts) for parts in zip(*rows)] for rows in pairs]
                self.is_right(added(one, other), *one[:2], wanted)
                self.same(added(other, one), added(one, other))
            else:
                self.refuses("other", added, one, other)

    def test_added_with_unlike_powers(self):
        one = table_of(0, 0, 3, (((1, 0, 0, 0),),))
        other = table_of(0, 0, 0, (((1, 0, 0, 0),),))
        self.same(added(one, other), (0, 0, 3, (((1, 2, 0, -2),),)))
        self.same(added(one, one), (0, 0, 1, (((1, 0, 0, 0),),)))
        self.same(added(one, table_of(0, 0, 3, (((-1, 0, 0, 0),),))), nought_table(0, 0))

    def test_h_twice(self):
        self.same(chained(H, H), ONE_WIRE)
