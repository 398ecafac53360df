"""[2], [13]: which values are of which kind."""

from lookundone.kinds import is_bits, is_exact, is_integer, is_lot, is_number, is_turn
from tests.common import ANY_VALUES, StrictCase, nested


class KindsTest(StrictCase):
    def told(self, function, values, wanted):
        for thing in values:
            self.assertIs(function(thing), wanted, (function.__name__, thing))

    def test_integers(self):
        self.told(is_integer, (0, 1, -1, 7, 10 ** 60 - 1, 1 - 10 ** 60), True)
        self.told(is_integer, (True, False, None, "0", "", (), (0,), [0], nested(30)), False)

    def test_numbers(self):
        self.told(is_number, (0, 1, 9999, 10 ** 60 - 1), True)
        self.told(is_number, (-1, 1 - 10 ** 60, True, False, None, "1", (1,), [1]), False)

    def test_turns(self):
        self.told(is_turn, range(8), True)
        self.told(is_turn, (8, -1, 10 ** 59, True, False, None, "1", (1,), [1]), False)

    def test_exacts(self):
        self.told(is_exact, ((0, 0, 0, 0), (1, -2, 3, -4), (10 ** 59, 0, 0, -(10 ** 59))), True)
        self.told(is_exact, ((), (0,), (0, 0, 0), (0, 0, 0, 0, 0), [0, 0, 0, 0], "0000", 0, None, True), False)
        for k in range(4):
            for odd in (True, False, None, "0", (), (0,), [0], "", nested(29)):
                thing = [1, 2, 3, 4]
                thing[k] = odd
                self.told(is_exact, (tuple(thing),), False)

    def test_lots(self):
        self.told(is_lot, ((), (0,), (9999,), (0, 1, 2), (3, 70, 9999), tuple(range(5000))), True)
        wrong = (
            (1, 0), (0, 0), (0, 1, 1), (0, 2, 1), (10000,), (0, 10000), (-1,), (-1, 0), (True,), (False,), (0, True),
            (False, 1), ("0",), (None,), ((0,),), [], [0], [0, 1], "", "01", 0, None, True, (0, 1, None), nested(30),
            tuple(range(4999)) + (4998,), (10 ** 59,),
        )
        self.told(is_lot, wrong, False)

    def test_bits(self):
        right = ((0, ()), (1, (0,)), (1, (1,)), (3, (1, 0, 1)), (5000, (0, 1) * 2500))
        for many, thing in right:
            self.assertIs(is_bits(many, thing), True)
            self.assertIs(is_bits(many + 1, thing), False)
        wrong = (
            (0, []), (0, ""), (0, None), (0, 0), (0, False), (1, ()), (1, (2,)), (1, (-1,)), (1, (True,)),
            (1, (False,)), (1, [0]), (1, ("0",)), (2, (0, True)), (2, (0, None)), (2, (0, (0,))), (2, "01"), (1, 1),
            (10 ** 59, ()), (5000, (0,) * 4999 + (2,)),
        )
        for many, thing in wrong:
            self.assertIs(is_bits(many, thing), False, (many, thing))

    def test_any_values(self):
        for thing in ANY_VALUES:
            kept = repr(thing)
            is_int = type(thing) is int
            self.assertIs(is_integer(thing), is_int)
            self.assertIs(is_number(thing), is_int and thing >= 0)
            self.assertIs(is_turn(thing), is_int and 0 <= thing <= 7)
            ints = type(thing) is tuple and all(type(part) is int for part in thing)
            self.assertIs(is_exact(thing), ints and len(thing) == 4)
            self.assertIs(is_lot(thing), ints and list(thing) == sorted({x for x in thing if 0 <= x <= 9999}))
            for many in range(4):
                wanted = ints and len(thing) == many and all(part in (0, 1) for part in thing)
                self.assertIs(is_bits(many, thing), wanted)
            self.assertEqual(repr(thing), kept)
