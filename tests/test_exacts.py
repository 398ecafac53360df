"""[3], [14]: exact values, their sizes and signs."""

import random
from fractions import Fraction

from lookundone.exacts import by_root, minus, mirror_of, plus, times, turn_of, unit
from lookundone.sizes import sign_of, size_of
from tests.common import StrictCase
from tests.oracles import is_times_root, mirror_parts, product, total, unit_parts

UNITS = (
    (1, 0, 0, 0), (0, 1, 0, 0), (0, 0, 1, 0), (0, 0, 0, 1), (-1, 0, 0, 0), (0, -1, 0, 0), (0, 0, -1, 0), (0, 0, 0, -1),
)
SOME = (
    (0, 0, 0, 0), (1, 0, 0, 0), (0, 1, 0, -1), (1, 2, 3, 4), (-5, 7, -11, 13), (10 ** 12 - 1, 1 - 10 ** 12, 0, 1),
    (2, 2, 2, 2), (1, 1, 1, 1), (3, -3, 3, -3), (0, 0, 0, 10 ** 11), (-1, -1, 0, 0), (6, 0, 4, 0), (1, 0, 1, 0),
)


def some_exacts(many):
    chance = random.Random(14)
    found = list(SOME)
    for k in range(many):
        bound = (2, 10, 10 ** 12 - 1)[k % 3]
        found.append(tuple(chance.randint(-bound, bound) for _ in range(4)))
    return found


def sign_by_roots(whole, part):
    """The sign of whole + part r, by bounds of r that lie close together."""
    low, high = Fraction(1), Fraction(2)
    while True:
        ends = [whole + part * bound for bound in (low, high)]
        if all(end > 0 for end in ends):
            return 1
        if all(end < 0 for end in ends):
            return -1
        if whole == part == 0:
            return 0
        middle = (low + high) / 2
        if middle * middle < 2:
            low = middle
        else:
            high = middle


class ExactsTest(StrictCase):
    def test_sums_and_differences(self):
        for one in some_exacts(30):
            for other in some_exacts(30):
                self.same(plus(one, other), total([one, other]))
                self.same(minus(one, other), tuple(a - b for a, b in zip(one, other)))

    def test_products(self):
        self.same(times((1, 2, 3, 4), (5, 6, 7, 8)), (-56, -36, 2, 60))
        self.same(times((0, 1, 0, -1), (0, 1, 0, -1)), (2, 0, 0, 0))
        for one in some_exacts(30):
            for other in some_exacts(30):
                self.same(times(one, other), product(one, other))

    def test_mirrors(self):
        self.same(mirror_of((1, 2, 3, 4)), (1, -4, -3, -2))
        for one in some_exacts(60):
            self.same(mirror_of(one), mirror_parts(one))
            self.same(mirror_of(mirror_of(one)), one)
            for other in some_exacts(10):
                self.same(mirror_of(times(one, other)), times(mirror_of(one), mirror_of(other)))

    def test_units(self):
        for turn, wanted in enumerate(UNITS):
            self.same(unit(turn), wanted)
            self.same(unit(turn), unit_parts(turn))
            self.same(turn_of(wanted), turn)
            for other in range(8):
                self.same(times(unit(turn), unit(other)), unit((turn + other) % 8))
        self.same(times(unit(1), mirror_of(unit(1))), (1, 0, 0, 0))

    def test_nearly_units(self):
        for wanted in UNITS:
            for k in range(4):
                for more in (-2, -1, 1, 2, 10 ** 11):
                    near = tuple(part + more * (j == k) for j, part in enumerate(wanted))
                    self.same(turn_of(near), UNITS.index(near) if near in UNITS else None, near)
        for exact in ((0, 0, 0, 0), (1, 1, 0, 0), (2, 0, 0, 0), (0, 1, 0, -1), (1, 0, 0, 1), (1, 0, 0, -1)):
            self.same(turn_of(exact), None, exact)

    def test_by_root(self):
        self.same(by_root((0, 0, 0, 0)), (0, 0, 0, 0))
        self.same(by_root((0, 1, 0, -1)), (1, 0, 0, 0))
        self.same(by_root((2, 0, 0, 0)), (0, 1, 0, -1))
        self.same(by_root((1, 0, 1, 0)), (0, 1, 0, 0))
        self.same(by_root((1, 0, 0, 1)), None)
        self.same(by_root((0, 1, 0, 0)), None)
        for one in some_exacts(300):
            self.same(by_root(times(one, (0, 1, 0, -1))), one)
            found = by_root(one)
            self.assertEqual(found is not None, is_times_root(one), one)
            if found is not None:
                self.same(times(found, (0, 1, 0, -1)), one)


class SizesTest(StrictCase):
    def test_sizes(self):
        self.same(size_of((0, 0, 0, 0)), (0, 0))
        self.same(size_of((1, 1, 0, 0)), (2, 1))
        self.same(size_of((1, 0, 0, 1)), (2, -1))
        self.same(size_of((0, 1, 0, -1)), (2, 0))
        for turn in range(8):
            self.same(size_of(unit(turn)), (1, 0))
        for one in some_exacts(100):
            whole, part = size_of(one)
            self.same((whole, part, 0, -part), (whole, *product(one, mirror_parts(one))[1:]))
            self.assertEqual(whole, sum(a * a for a in one))
            self.assertEqual(sign_of(whole, part), int(one != (0, 0, 0, 0)))

    def test_signs(self):
        for whole in range(-30, 31):
            for part in range(-30, 31):
                self.same(sign_of(whole, part), sign_by_roots(whole, part), (whole, part))

    def test_great_signs_close_to_nought(self):
        whole, part = 1, 1
        for _ in range(80):
            # whole over part comes ever closer to r, from below and from above in turn.
            wanted = 1 if whole * whole > 2 * part * part else -1
            self.same(sign_of(whole, -part), wanted, (whole, part))
            self.same(sign_of(-whole, part), -wanted, (whole, part))
            self.same(sign_of(whole, part), 1)
            self.same(sign_of(-whole, -part), -1)
            self.same(sign_of(whole, -part), sign_by_roots(whole, -part))
            whole, part = whole + 2 * part, whole + part

    def test_signs_with_nought(self):
        for great in (1, 10 ** 30, 10 ** 59):
            self.same((sign_of(great, 0), sign_of(-great, 0), sign_of(0, great), sign_of(0, -great)), (1, -1, 1, -1))
        self.same(sign_of(0, 0), 0)
        self.same(sign_of(141421356237309504880168872420969807, -(10 ** 35)), -1)
        self.same(sign_of(141421356237309504880168872420969808, -(10 ** 35)), 1)
