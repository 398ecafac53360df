"""[53] to [55], [58]: rows of bits, their sums, bars, kernels, inverse rows."""

import itertools
import random

from lookundone.bitrows import number_of_places, parity, places_of, sum_of_rows
from lookundone.errors import InvalidPaper
from lookundone.kernels import kernel_of, rank_of
from lookundone.solving import lets_solved, solve_rows
from lookundone.squares import flipped_rows, inverse_rows, product_rows
from tests.common import ANY_VALUES, NEVER, StrictCase

GREATEST = 2 ** 80 - 1
SOME_ROWS = (
    (), (0,), (1,), (0, 0), (1, 1), (2, 1), (3, 5), (3, 5, 6), (1, 2, 4), (7, 7, 0), (4, 0, 4, 1), (GREATEST,),
    (GREATEST, GREATEST), (2 ** 79, 1, 2 ** 79 + 1), (5, 10, 15, 0, 5),
)


def some_rows(count, seed, most=6, wide=6):
    chance = random.Random(seed)
    return [tuple(chance.randrange(2 ** chance.randint(0, wide)) for _ in range(k % (most + 1))) for k in range(count)]


def great_rows(seed, many=80, spread=80):
    chance = random.Random(seed)
    base = [chance.randrange(2 ** 80) for _ in range(spread)]
    rows = []
    for _ in range(many):
        row = 0
        for number in base:
            row ^= number if chance.random() < 0.5 else 0
        rows.append(row)
    return tuple(rows)


def bits_of(number):
    return [k for k in range(number.bit_length()) if number & (1 << k)]


def added(rows):
    found = set()
    for row in rows:
        found ^= set(bits_of(row))
    return sum(2 ** place for place in found)


def all_sums(rows):
    """All sums of rows, each with the places of one way to it."""
    found = {}
    for many in range(len(rows) + 1):
        for places in itertools.combinations(range(len(rows)), many):
            found.setdefault(added([rows[place] for place in places]), places)
    return found


class BitRowsTest(StrictCase):
    def test_some_numbers(self):
        for number, places in ((0, ()), (1, (0,)), (2, (1,)), (11, (0, 1, 3)), (2 ** 79, (79,)), (GREATEST, tuple(range(80)))):
            self.same(places_of(number), places)
            self.same(number_of_places(places), number)
            self.same(parity(number), len(places) % 2)

    def test_all_small_and_some_great_numbers(self):
        chance = random.Random(53)
        for number in [*range(300), *[chance.randrange(2 ** 80) for _ in range(100)]]:
            self.same(places_of(number), tuple(bits_of(number)))
            self.same(number_of_places(places_of(number)), number)
            self.same(parity(number), bin(number).count("1") % 2)

    def test_sums(self):
        self.same(sum_of_rows(()), 0)
        self.same(sum_of_rows((5,)), 5)
        self.same(sum_of_rows((3, 5, 6)), 0)
        self.same(sum_of_rows((GREATEST, 2 ** 79, 1)), GREATEST - 2 ** 79 - 1)
        for rows in some_rows(60, 1) + [great_rows(1)]:
            self.same(sum_of_rows(rows), added(rows))


class SolvingTest(StrictCase):
    def holds(self, rows, target, found):
        """A sum or a bar must be as told, asked here without the checker."""
        word, told = found
        if word == "sum":
            self.assertEqual(list(told), sorted(set(told)))
            self.assertEqual(added([rows[place] for place in told]), target)
        else:
            self.same(word, "bar")
            self.assertTrue(all(len(set(bits_of(row)) & set(bits_of(told))) % 2 == 0 for row in rows))
            self.assertEqual(len(set(bits_of(target)) & set(bits_of(told))) % 2, 1)
        self.same(lets_solved(rows, target, found), word)

    def test_against_all_sums(self):
        for rows in list(SOME_ROWS) + some_rows(80, 54):
            sums = all_sums(rows)
            for target in {0, 1, 2, 3, 6, 9, 33, 64, GREATEST, 2 ** 79, *sums}:
                found = solve_rows(rows, target)
                self.same(found[0], "sum" if target in sums else "bar")
                self.holds(rows, target, found)

    def test_some(self):
        self.same(solve_rows((), 0), ("sum", ()))
        self.same(solve_rows((), 5)[0], "bar")
        self.same(solve_rows((0,), 0)[0], "sum")
        self.same(solve_rows((0,), 1)[0], "bar")
        self.same(solve_rows((3, 5), 6), ("sum", (0, 1)))
        self.same(solve_rows((GREATEST,), GREATEST), ("sum", (0,)))

    def test_great_rows(self):
        chance = random.Random(80)
        met = []
        for seed in range(12):
            rows = great_rows(seed, 80, 80 if seed % 2 else 60)
            places = sorted(chance.sample(range(80), 40))
            for target in (added([rows[place] for place in places]), chance.randrange(2 ** 80), GREATEST, 0):
                found = solve_rows(rows, target)
                self.holds(rows, target, found)
                met.append(found[0])
        self.assertEqual(set(met), {"sum", "bar"})

    def raises_paper(self, word, at, *arguments):
        self.raises(InvalidPaper, {"word": word, "at": at}, lets_solved, *arguments)

    def test_shape(self):
        for thing in ANY_VALUES + (
            ("sum",), ("bar",), ("sum", (), 0), ["sum", ()], ("Sum", ()), ((), "sum"), (("sum",), ()), ("sums", ()), "sum",
            (None, ()), (0, 0), ("", ()), ("bars", 1),
        ):
            self.raises_paper("shape", -1, (3, 5), 6, thing)

    def test_sums_refused(self):
        for told in (
            None, 0, 1, True, "", "01", [], [0, 1], (1, 0), (0, 0), (0, 2), (-1, 0), (True,), (0, True), (False, 1), ("0", "1"),
            ((0,), (1,)), (None,), (0, 1, 2), (10 ** 59,),
        ):
            self.raises_paper("places", -1, (3, 5), 6, ("sum", told))
        for told in ((), (0,), (1,)):
            self.raises_paper("sum", -1, (3, 5), 6, ("sum", told))
        self.same(lets_solved((3, 5), 6, ("sum", (0, 1))), "sum")
        self.same(lets_solved((), 0, ("sum", ())), "sum")
        self.raises_paper("sum", -1, (), 1, ("sum", ()))
        self.raises_paper("places", -1, (), 0, ("sum", (0,)))

    def test_bars_refused(self):
        for told in NEVER + ((1,), [1], "1"):
            if type(told) is not int or told < 0:
                self.raises_paper("bar", -1, (3, 5), 1, ("bar", told))
        rows = (3, 5, 0, 12)
        self.raises_paper("row", 0, rows, 16, ("bar", 1))
        self.raises_paper("row", 0, rows, 16, ("bar", 2))
        self.raises_paper("row", 1, rows, 16, ("bar", 3))
        self.raises_paper("row", 1, rows, 16, ("bar", 4))
        self.raises_paper("row", 3, rows, 16, ("bar", 8))
        self.raises_paper("row", 3, rows, 16, ("bar", 7))
        self.raises_paper("target", -1, rows, 16, ("bar", 0))
        self.raises_paper("target", -1, rows, 16, ("bar", 15))
        self.raises_paper("target", -1, rows, 3, ("bar", 15))
        self.raises_paper("target", -1, (), 0, ("bar", GREATEST))
        self.same(lets_solved(rows, 1, ("bar", 15)), "bar")
        self.same(lets_solved(rows, 16, ("bar", 16)), "bar")
        self.same(lets_solved((), 1, ("bar", GREATEST)), "bar")
        self.same(lets_solved((), 1, ("bar", 10 ** 59 + 1)), "bar")

    def test_no_target(self):
        for wrong in (None, True, False, -1, "1", (), (1,), [1]):
            self.refuses("target", solve_rows, (3, 5), wrong)
            for thing in (("sum", (0,)), None, ("bar", -1)):
                self.refuses("target", lets_solved, (3, 5), wrong, thing)

    def test_never_both(self):
        for rows in some_rows(40, 58, 3, 3):
            for target in range(8):
                lots = [places for many in range(len(rows) + 1) for places in itertools.combinations(range(len(rows)), many)]
                words = set()
                for thing in [("sum", places) for places in lots] + [("bar", number) for number in range(8)]:
                    try:
                        words.add(lets_solved(rows, target, thing))
                    except InvalidPaper:
                        pass
                self.assertEqual(words, {solve_rows(rows, target)[0]})


class KernelsTest(StrictCase):
    def test_against_all_sums(self):
        for rows in list(SOME_ROWS) + some_rows(100, 55):
            sums = {}
            best = 0
            for many in range(len(rows) + 1):
                for places in itertools.combinations(range(len(rows)), many):
                    chosen = [rows[place] for place in places]
                    if many:
                        sums[places] = added(chosen)
                    if not any(added(part) == 0 for k in range(1, many + 1) for part in itertools.combinations(chosen, k)):
                        best = max(best, many)
            found = kernel_of(rows)
            if 0 in sums.values():
                self.assertEqual(sums[found], 0)
                self.assertIs(type(found), tuple)
            else:
                self.assertIsNone(found)
            self.same(rank_of(rows), best)
            self.assertEqual(found is None, rank_of(rows) == len(rows))

    def test_some(self):
        self.assertIsNone(kernel_of(()))
        self.same(rank_of(()), 0)
        self.same(kernel_of((0,)), (0,))
        self.same(kernel_of((5, 5)), (0, 1))
        self.same(kernel_of((3, 5, 6)), (0, 1, 2))
        self.same(kernel_of((1, 0, 2)), (1,))
        self.same(kernel_of((GREATEST, 1, GREATEST)), (0, 2))
        self.same(rank_of((GREATEST, 1, GREATEST, 0)), 2)
        self.same(rank_of(tuple(1 << k for k in range(80))), 80)
        self.same(rank_of((GREATEST,) * 80), 1)

    def test_great_rows(self):
        for seed in range(8):
            rows = great_rows(seed, 80, 40)
            found = kernel_of(rows)
            self.assertEqual(added([rows[place] for place in found]), 0)
            self.assertTrue(found)
            rank = rank_of(rows)
            self.assertLessEqual(rank, 40)
            # Rows that hold their greatest place alone have no sum 0.
            stairs = tuple((1 << k) | (row & ((1 << k) - 1)) for k, row in enumerate(rows))
            self.assertIsNone(kernel_of(stairs))
            self.same(rank_of(stairs), 80)


class SquaresTest(StrictCase):
    def test_all_small_ones(self):
        for many in range(4):
            ones = tuple(1 << k for k in range(many))
            for rows in itertools.product(range(2 ** many), repeat=many):
                found = inverse_rows(rows)
                if rank_of(rows) < many:
                    self.assertIsNone(found)
                else:
                    self.same(product_rows(rows, found), ones)
                    self.same(product_rows(found, rows), ones)

    def test_some(self):
        self.same(inverse_rows(()), ())
        self.same(inverse_rows((1,)), (1,))
        self.assertIsNone(inverse_rows((0,)))
        self.same(inverse_rows((2, 3)), (3, 1))
        self.same(inverse_rows((2, 4, 1)), (4, 1, 2))
        self.assertIsNone(inverse_rows((3, 5, 6)))

    def test_great_ones(self):
        ones = tuple(1 << k for k in range(80))
        for seed in range(4):
            rows = great_rows(seed)
            stairs = tuple((1 << k) | (row & ((1 << k) - 1)) for k, row in enumerate(rows))
            mixed = tuple(random.Random(seed).sample(product_rows(stairs, flipped_rows(stairs, 80)), 80))
            for square in (stairs, mixed):
                found = inverse_rows(square)
                self.same(product_rows(square, found), ones)
                self.same(product_rows(found, square), ones)

    def test_rows_that_are_too_great(self):
        for rows in ((2,), (1, 4), (4, 1), (0, 4), (1, 2, 8), (GREATEST,), (8, 8, 8), (2 ** 79,) * 79):
            self.refuses("rows", inverse_rows, rows)
        self.assertIsNone(inverse_rows((1, 1)))
        self.assertIsNone(inverse_rows((2 ** 79,) * 80))

    def test_products(self):
        self.same(product_rows((), ()), ())
        self.same(product_rows((), (5, 6)), ())
        self.same(product_rows((0, 0), ()), (0, 0))
        self.same(product_rows((0, 1, 2, 3), (9, 12)), (0, 9, 12, 5))
        chance = random.Random(55)
        for _ in range(60):
            others = tuple(chance.randrange(2 ** 20) for _ in range(chance.randint(0, 8)))
            rows = tuple(chance.randrange(2 ** len(others)) for _ in range(5))
            wanted = tuple(added([others[place] for place in bits_of(row)]) for row in rows)
            self.same(product_rows(rows, others), wanted)

    def test_others_refused(self):
        for wrong in (None, 0, True, "", [9, 12], (9,), (), (9, True), (False, 12), (9, -1), (9, "12"), (9, (12,)), (9, None)):
            self.refuses("others", product_rows, (1, 2), wrong)
        self.refuses("others", product_rows, (2 ** 79,), (1,) * 79)
        self.same(product_rows((2 ** 79,), (1,) * 79 + (7,)), (7,))
        self.refuses("others", product_rows, (), [])

    def test_flipped(self):
        self.same(flipped_rows((), 0), ())
        self.same(flipped_rows((), 2), (0, 0))
        self.same(flipped_rows((3, 4), 0), ())
        self.same(flipped_rows((3, 4), 2), (1, 1))
        self.same(flipped_rows((3, 4), 5), (1, 1, 2, 0, 0))
        self.same(flipped_rows((2 ** 79, 1), 80), (2,) + (0,) * 78 + (1,))
        for rows in list(SOME_ROWS) + some_rows(60, 56):
            for wide in (0, 1, 3, 6, 80):
                found = flipped_rows(rows, wide)
                self.same(found, tuple(sum(2 ** k for k, row in enumerate(rows) if j in bits_of(row)) for j in range(wide)))
            self.same(flipped_rows(flipped_rows(rows, 80), len(rows)), rows)
        for wrong in (None, True, False, -1, "3", (), (3,), [3]):
            self.refuses("wide", flipped_rows, (3, 4), wrong)


class ConsequencesTest(StrictCase):
    def test_inverse_exactly_with_full_rank(self):
        for rows in some_rows(150, 59, 5, 5):
            square = tuple(row % 2 ** len(rows) for row in rows)
            self.assertEqual(inverse_rows(square) is None, rank_of(square) < len(square))
            self.assertEqual(kernel_of(rows) is None, rank_of(rows) == len(rows))
