"""[3], [15]: which values are tables, how they are made, what stands in them."""

import random

from lookundone.tables import entry_at, is_table, nought_table, one_table, table_of
from tests.common import ANY_VALUES, H, NO_WIRES, ONE_WIRE, TWO, StrictCase, wrong_places
from tests.oracles import is_in_one_form, is_times_root, product, root_power, worth, worths

NOUGHT = (0, 0, 0, 0)


def some_rows(chance, outs, ins, bound=3, roots=0):
    """Rows of exact values, each of them times r to the roots."""
    factor = tuple(int(part) for part in root_power(roots))
    return tuple(
        tuple(product(tuple(chance.randint(-bound, bound) for _ in range(4)), factor) for _ in range(2 ** ins))
        for _ in range(2 ** outs)
    )


def some_tables(many, widest=2, seed=15):
    """Tables of all shapes, many of each."""
    chance = random.Random(seed)
    found = []
    for outs in range(widest + 1):
        for ins in range(widest + 1):
            for k in range(many):
                power = chance.randint(-3, 6)
                found.append(table_of(outs, ins, power, some_rows(chance, outs, ins, 2, k % 4)))
    return found


class IsTableTest(StrictCase):
    def test_tables(self):
        for table in (H, ONE_WIRE, TWO, NO_WIRES, (0, 0, 0, ((NOUGHT,),)), (0, 2, 60, (((1, 0, 0, 0),) * 4,))):
            self.assertIs(is_table(table), True, table)
        for outs, ins in ((0, 6), (6, 0), (6, 6)):
            self.assertIs(is_table(nought_table(outs, ins)), True)
        # A limit is not part of the kind.
        self.assertIs(is_table((0, 0, 10 ** 50, (((1, 0, 0, 0),),))), True)
        self.assertIs(is_table((7, 0, 0, (((10 ** 50, 0, 0, 0),),) * 128)), True)

    def test_right_but_for_the_one_form(self):
        for power in (1, 2, 60, 10 ** 50):
            self.assertIs(is_table((0, 0, power, ((NOUGHT,),))), False)
            self.assertIs(is_table((0, 0, power, (((2, 0, 0, 0),),))), False)
            self.assertIs(is_table((0, 0, power, (((0, 1, 0, -1),),))), False)
            self.assertIs(is_table((1, 0, power, (((0, 1, 0, -1),), ((1, 0, 0, 0),)))), True)
            self.assertIs(is_table((0, 1, power, (((1, 0, 0, 0), (0, 1, 0, -1)),))), True)
            self.assertIs(is_table((1, 1, power, (((2, 0, 0, 0), NOUGHT), ((0, 0, 0, 4), (1, 0, 1, 0))))), False)
        self.assertIs(is_table((0, 0, 0, (((2, 0, 0, 0),),))), True)

    def test_powers_that_are_no_numbers(self):
        for power in (-1, True, False, None, "1", (1,), -60):
            self.assertIs(is_table((*H[:2], power, H[3])), False, power)
            self.assertIs(is_table((0, 0, power, ((NOUGHT,),))), False, power)

    def test_shapes(self):
        one = ((1, 0, 0, 0),)
        for outs, ins, rows in (
            (1, 0, (one,)), (1, 0, (one, one, one)), (0, 1, (one,)), (0, 1, (one * 3,)), (0, 0, ()), (0, 0, ((),)),
            (0, 0, (one, one)), (1, 1, (one * 2, one)), (1, 1, (one * 2, one * 3)), (2, 0, (one, one)),
            (10 ** 59, 0, (one,)), (0, 10 ** 59, (one,)), (-1, 0, (one,)), (0, -1, (one,)), (-1, 0, ()),
            (True, 0, (one, one)), (0, True, (one * 2,)), (False, 0, (one,)), (0, False, (one,)),
        ):
            self.assertIs(is_table((outs, ins, 0, rows)), False, (outs, ins, rows))

    def test_one_wrong_place(self):
        others = (None, True, False, "", (), [], -1, NOUGHT, "0")
        for table in (H, TWO, NO_WIRES):
            for wrong in wrong_places(table, others):
                if wrong not in (NO_WIRES, (0, 0, 0, ((NOUGHT,),))):
                    shape = type(wrong) is tuple and len(wrong) == 4
                    if not (shape and self.is_right(wrong)):
                        self.assertIs(is_table(wrong), False, wrong)

    def is_right(self, thing):
        """Told otherwise: all kinds by their text, and the lengths."""
        outs, ins, power, rows = thing
        if not all(type(part) is int and part >= 0 for part in (outs, ins, power)) or outs > 9 or ins > 9:
            return False
        if type(rows) is not tuple or len(rows) != 2 ** outs:
            return False
        for row in rows:
            if type(row) is not tuple or len(row) != 2 ** ins:
                return False
            for exact in row:
                if type(exact) is not tuple or [type(part) for part in exact] != [int] * 4:
                    return False
        return is_in_one_form(thing)

    def test_any_values(self):
        for thing in ANY_VALUES:
            self.assertIs(is_table(thing), False, thing)


class TableOfTest(StrictCase):
    def test_all_powers(self):
        chance = random.Random(1)
        for power in range(-60, 61):
            for roots in (0, 1, 2, 3, 9):
                rows = some_rows(chance, 1, 1, 3, roots)
                table = table_of(1, 1, power, rows)
                self.assertTrue(is_in_one_form(table), table)
                self.assertTrue(is_table(table))
                self.assertEqual(worths(table), [[worth(exact, power) for exact in row] for row in rows])

    def test_the_one_form(self):
        self.same(table_of(0, 0, 3, (((2, 0, 0, 0),),)), (0, 0, 1, (((1, 0, 0, 0),),)))
        self.same(table_of(0, 0, 1, (((2, 0, 0, 0),),)), (0, 0, 0, (((0, 1, 0, -1),),)))
        self.same(table_of(0, 0, 0, (((2, 0, 0, 0),),)), (0, 0, 0, (((2, 0, 0, 0),),)))
        self.same(table_of(0, 0, -1, (((2, 0, 0, 0),),)), (0, 0, 0, (((0, 2, 0, -2),),)))
        self.same(table_of(0, 0, -2, (((0, 1, 0, 0),),)), (0, 0, 0, (((0, 2, 0, 0),),)))
        self.same(table_of(0, 0, 60, (((2 ** 30, 0, 0, 0),),)), (0, 0, 0, (((1, 0, 0, 0),),)))
        self.same(table_of(0, 0, 60, (((2 ** 29, 0, 0, 0),),)), (0, 0, 2, (((1, 0, 0, 0),),)))

    def test_all_nought(self):
        for power in (-60, -1, 0, 1, 60):
            for outs in range(3):
                for ins in range(3):
                    rows = ((NOUGHT,) * 2 ** ins,) * 2 ** outs
                    self.same(table_of(outs, ins, power, rows), (outs, ins, 0, rows))

    def test_one_value_that_is_not_a_multiple(self):
        for y in range(4):
            for x in range(4):
                rows = [[(4, 0, 0, 0)] * 4 for _ in range(4)]
                rows[y][x] = (1, 0, 0, 0)
                rows = tuple(tuple(row) for row in rows)
                self.same(table_of(2, 2, 5, rows), (2, 2, 5, rows))
                rows = tuple(tuple(product(exact, (0, 1, 0, -1)) for exact in row) for row in rows)
                self.same(table_of(2, 2, 5, rows)[2], 4)

    def test_equal_if_entries_stand_for_the_same(self):
        chance = random.Random(2)
        for k in range(60):
            rows = some_rows(chance, k % 2, 1, 2)
            grown = tuple(tuple(product(exact, (0, 1, 0, -1)) for exact in row) for row in rows)
            for power in (-3, 0, 1, 8):
                self.same(table_of(k % 2, 1, power, rows), table_of(k % 2, 1, power + 1, grown))

    def test_outs_and_ins_up_to_twelve(self):
        for outs, ins in ((0, 0), (12, 0), (0, 12), (7, 3)):
            rows = (((1, 0, 0, 0),) * 2 ** ins,) * 2 ** outs
            self.same(table_of(outs, ins, 2, rows)[:3], (outs, ins, 2))
            self.refuses("outs", table_of, 13, ins, 0, rows)
            self.refuses("ins", table_of, outs, 13, 0, rows)
            self.refuses("rows", table_of, outs, ins, 0, rows + rows[:1])
        self.refuses("power", table_of, 0, 0, 61, (((1, 0, 0, 0),),))
        self.refuses("power", table_of, 0, 0, -61, (((1, 0, 0, 0),),))


class OnesAndNoughtsTest(StrictCase):
    def test_ones(self):
        self.same(one_table(0), NO_WIRES)
        self.same(one_table(1), ONE_WIRE)
        for many in range(7):
            outs, ins, power, rows = one_table(many)
            self.same((outs, ins, power, len(rows)), (many, many, 0, 2 ** many))
            for y, row in enumerate(rows):
                self.same(row, tuple((int(x == y), 0, 0, 0) for x in range(2 ** many)))

    def test_noughts(self):
        for outs in range(7):
            for ins in range(7):
                self.same(nought_table(outs, ins), (outs, ins, 0, ((NOUGHT,) * 2 ** ins,) * 2 ** outs))


class EntryTest(StrictCase):
    def test_all_entries(self):
        chance = random.Random(3)
        for k in range(40):
            table = table_of(2, 1, chance.randint(-3, 9), some_rows(chance, 2, 1, 4, k % 3))
            for y in range(4):
                for x in range(2):
                    exact, power = entry_at(table, y, x)
                    self.same((exact, power), (exact, power))
                    self.assertEqual(worth(exact, power), worths(table)[y][x])
                    self.assertTrue(power == 0 or power > 0 and not is_times_root(exact))

    def test_the_power_brought_down(self):
        table = table_of(1, 1, 5, (((1, 0, 0, 0), (2, 0, 0, 0)), ((0, 1, 0, -1), (64, 0, 0, 0))))
        self.same(table[2], 5)
        self.same(entry_at(table, 0, 0), ((1, 0, 0, 0), 5))
        self.same(entry_at(table, 0, 1), ((1, 0, 0, 0), 3))
        self.same(entry_at(table, 1, 0), ((1, 0, 0, 0), 4))
        self.same(entry_at(table, 1, 1), ((0, 8, 0, -8), 0))

    def test_nought(self):
        table = (1, 0, 3, (((1, 0, 0, 0),), (NOUGHT,)))
        self.same(entry_at(table, 0, 0), ((1, 0, 0, 0), 3))
        self.same(entry_at(table, 1, 0), (NOUGHT, 0))

    def test_beyond(self):
        for outs in range(4):
            for ins in range(4):
                table = nought_table(outs, ins)
                self.same(entry_at(table, 2 ** outs - 1, 2 ** ins - 1), (NOUGHT, 0))
                self.refuses("y", entry_at, table, 2 ** outs, 0)
                self.refuses("x", entry_at, table, 0, 2 ** ins)
                self.refuses("y", entry_at, table, -1, 2 ** ins)
