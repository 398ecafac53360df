"""[6], [17]: tables times powers of r and units, outs flipped, signed and turned, columns."""

import itertools
import random

from lookundone.scaling import negative, scaled, turned
from lookundone.shifting import column_of, on_plus, shifted
from lookundone.tables import is_table, nought_table, one_table
from tests.common import H, ONE_WIRE, TWO, StrictCase
from tests.oracles import is_in_one_form, product, root_power, total, unit_parts, worth, worths
from tests.test_tables import some_tables

TABLES = some_tables(3)


class ScalingTest(StrictCase):
    def is_times(self, found, table, factor):
        self.assertTrue(is_table(found) and is_in_one_form(found), found)
        self.same(found[:2], table[:2])
        self.assertEqual(worths(found), [[product(parts, factor) for parts in row] for row in worths(table)])

    def test_scaled(self):
        self.same(scaled(H, 1), (1, 1, 0, H[3]))
        self.same(scaled(ONE_WIRE, -2), (1, 1, 2, ONE_WIRE[3]))
        self.same(scaled(ONE_WIRE, 2)[3][0], ((2, 0, 0, 0), (0, 0, 0, 0)))
        for many in range(-60, 61):
            for table in TABLES[many % 7::7]:
                self.is_times(scaled(table, many), table, root_power(many))
            self.same(scaled(nought_table(1, 2), many), nought_table(1, 2))
            self.same(scaled(scaled(H, many), -many), H)

    def test_turned(self):
        for turn in range(8):
            for table in TABLES:
                self.is_times(turned(table, turn), table, unit_parts(turn))
        self.same(turned(TWO, 1), (1, 0, 1, (((0, 1, 0, 0),), ((1, 0, 1, 0),))))
        self.same(turned(TWO, 7), (1, 0, 1, (((0, 0, 0, -1),), ((1, 0, -1, 0),))))

    def test_negative(self):
        self.same(negative(TWO), (1, 0, 1, (((-1, 0, 0, 0),), ((0, -1, 0, 1),))))
        for table in TABLES:
            self.is_times(negative(table), table, (-1, 0, 0, 0))


def shifted_worths(table, flips, signs, turns):
    """The worths behind flips, then signs, then turns, out by out."""
    rows = worths(table)
    for k, flip in enumerate(flips):
        if flip:
            rows = [rows[y ^ 1 << k] for y in range(len(rows))]
    for k, (sign, turn) in enumerate(zip(signs, turns)):
        for y in range(len(rows)):
            if y >> k & 1:
                rows[y] = [product(parts, unit_parts(4 * sign + turn)) for parts in rows[y]]
    return rows


class ShiftingTest(StrictCase):
    def test_shifted(self):
        chance = random.Random(17)
        for table in TABLES:
            outs = table[0]
            for flips in itertools.product((0, 1), repeat=outs):
                for signs in itertools.product((0, 1), repeat=outs):
                    turns = tuple(chance.randint(0, 7) for _ in range(outs))
                    found = shifted(table, flips, signs, turns)
                    self.assertTrue(is_table(found) and is_in_one_form(found))
                    self.assertEqual(worths(found), shifted_worths(table, flips, signs, turns))

    def test_flips_then_signs_then_turns(self):
        self.same(shifted(ONE_WIRE, (1,), (0,), (0,)), (1, 1, 0, (ONE_WIRE[3][1], ONE_WIRE[3][0])))
        self.same(shifted(ONE_WIRE, (0,), (1,), (0,))[3][1][1], (-1, 0, 0, 0))
        self.same(shifted(ONE_WIRE, (1,), (1,), (1,))[3][1][0], (0, -1, 0, 0))
        self.same(shifted(ONE_WIRE, (1,), (1,), (1,))[3][0][1], (1, 0, 0, 0))
        self.same(shifted(one_table(2), (1, 0), (0, 0), (0, 3))[3][0b11][0b10], (0, 0, 0, 1))
        self.same(shifted(one_table(2), (0, 1), (0, 0), (3, 0))[3][0b11][0b01], (0, 0, 0, 1))
        self.same(shifted(one_table(2), (0, 1), (0, 0), (3, 0))[3][0b10][0b00], (1, 0, 0, 0))

    def test_each_of_the_wrong_length(self):
        for outs in range(4):
            table = nought_table(outs, 1)
            right = ((0,) * outs, (0,) * outs, (0,) * outs)
            self.same(shifted(table, *right), table)
            for k, word in enumerate(("flips", "signs", "turns")):
                for many in (outs - 1, outs + 1):
                    if many >= 0:
                        wrong = [*right]
                        wrong[k] = (0,) * many
                        self.refuses(word, shifted, table, *wrong)

    def test_columns(self):
        for table in TABLES:
            for x in range(2 ** table[1]):
                found = column_of(table, x)
                self.assertTrue(is_table(found) and is_in_one_form(found))
                self.same(found[:2], (table[0], 0))
                self.assertEqual(worths(found), [[row[x]] for row in worths(table)])
            self.refuses("x", column_of, table, 2 ** table[1])
        wide = (0, 1, 4, (((1, 0, 0, 0), (2, 0, 0, 0)),))
        self.same(column_of(wide, 0), (0, 0, 4, (((1, 0, 0, 0),),)))
        self.same(column_of(wide, 1), (0, 0, 2, (((1, 0, 0, 0),),)))

    def test_on_plus(self):
        for table in [*TABLES, *some_tables(1, 3)]:
            found = on_plus(table)
            self.assertTrue(is_table(found) and is_in_one_form(found))
            self.same(found[:2], (table[0], 0))
            rows = [[total([worth(exact, table[2] + table[1]) for exact in row])] for row in table[3]]
            self.assertEqual(worths(found), rows)
        self.same(on_plus(TWO), TWO)
        self.same(on_plus(one_table(2)), (2, 0, 2, (((1, 0, 0, 0),),) * 4))
        self.same(on_plus(one_table(3)), (3, 0, 3, (((1, 0, 0, 0),),) * 8))
