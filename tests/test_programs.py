"""[6], [37], [38]: which values are programs, why others are none, what their commands tell."""

import random

from lookundone.errors import InvalidPaper
from lookundone.programchecker import is_program, lets_program
from lookundone.programkinds import dots_of, live_counts, looks_of, with_turns
from tests.common import ANY_VALUES, STEP, TWICE, StrictCase, nested, wrong_places
from tests.program_oracles import dots_at, fault_plainly
from tests.some_programs import retied, some_program, some_programs

NOTHING = ((), (), (), ())
PROGRAMS = [STEP, TWICE, NOTHING, ((5, 0), (0, 5), (), (7, 3)), ((), (9999,), (("new", 9999),), (0,))]
PROGRAMS += some_programs(60, 37)


class CheckerTest(StrictCase):
    def checks(self, thing):
        """Both functions must tell what is told plainly; returns the fault."""
        fault = fault_plainly(thing)
        if fault is None:
            self.assertIs(is_program(thing), True)
            self.same(lets_program(thing), sum(command[0] == "look" for command in thing[2]))
        else:
            self.assertIs(is_program(thing), False, thing)
            word, at = fault
            self.raises(InvalidPaper, {"word": word, "at": at}, lets_program, thing)
        return fault

    def faulty(self, word, at, thing):
        self.assertEqual(self.checks(thing), (word, at), thing)

    def commands_fault(self, word, commands, ins=(0,), outs=(0,)):
        """The last one of the commands must be at fault, also ahead of other faults behind it."""
        at = len(commands) - 1
        for more in ((), (("new", 0),), (None,), commands[:1]):
            self.faulty(word, at, (ins, outs, tuple(commands) + more, (0,)))
            self.faulty(word, at, (ins, (), tuple(commands) + more, None))

    def test_programs(self):
        for program in PROGRAMS:
            self.assertIsNone(self.checks(program))

    def test_any_values(self):
        for thing in ANY_VALUES:
            self.assertEqual(self.checks(thing) is None, repr(thing) == repr(NOTHING), thing)

    def test_shape_ins_outs_commands(self):
        for thing in (None, True, 0, "", list(STEP), STEP[:3], STEP + ((),), (), [()]):
            self.faulty("shape", -1, thing)
        for wrong in (None, True, 0, "", [0], (True,), (False,), (0, 0), (-1,), (10000,), ("0",), ((0,),), [()]):
            self.faulty("ins", -1, (wrong, wrong, wrong, wrong))
            self.faulty("outs", -1, ((0,), wrong, wrong, wrong))
        for wrong in (None, True, 0, "", "new", [], [("new", 1)]):
            self.faulty("commands", -1, ((0,), (5,), wrong, wrong))

    def test_forms(self):
        for wrong in (
            None, 0, True, "", "new", (), ("new",), ["new", 1], ("new", 1, 2), ("New", 1), ("make", 1), (None, 1), (1, 1),
            (("new",), 1), ("new", True), ("new", -1), ("new", 10000), ("new", "1"), ("new", (1,)), ("new", None),
            ("tie", 1, 0), ("tie", 0, 0), ("tie", 0), ("tie", 0, 1, 2), ["tie", 0, 1], ("tie", False, 1), ("tie", 0, True),
            ("tie", 0, 10000), ("tie", -1, 0), ("tie", 0, (1,)), ("tie", 0, ()), ("flip", 0), ("flip", 0, [0]),
            ("flip", 0, 0), ("flip", 0, None), ("flip", 0, (), ()), ("flip", False, ()), ("flip", 0, (1, 0)),
            ("flip", 0, (1, 1)), ("flip", 0, (10000,)), ("flip", 0, (True,)), ("flip", 0, (-1,)), ("flip", 0, "ab"),
            ("sign", 0), ("sign", 0, []), ("sign", 0, 0), ("sign", 0, (), ()), ("sign", False, ()), ("sign", 0, (2, 1)),
            ("sign", 0, (1, 1)), ("sign", 0, (10000,)), ("sign", 0, (False,)), ["sign", 0, ()], ("Sign", 0, ()),
            ("look", 0, 0, ()), ("look", 0, 0, (), (), ()), ("look", 0, 8, (), ()), ("look", 0, -1, (), ()),
            ("look", 0, True, (), ()), ("look", 0, False, (), ()), ("look", 0, "0", (), ()), ("look", 0, None, (), ()),
            ("look", False, 0, (), ()), ("look", 0, 0, [], ()), ("look", 0, 0, (), []), ("look", 0, 0, (1, 0), ()),
            ("look", 0, 0, (), (1, 0)), ("look", 0, 0, (1, 1), ()), ("look", 0, 0, (), (10000,)), ("look", 0, 0, 0, ()),
            ("look", 0, 0, (), None), ("look", 0, 0, (True,), ()), ["look", 0, 0, (), ()], ("look", 0), ("look",),
        ):
            self.commands_fault("form", (wrong,))
            self.commands_fault("form", (("new", 1), ("tie", 0, 1), wrong))
            # A form is asked ahead of all else of its command.
            self.commands_fault("form", (wrong,), (), ())

    def test_new(self):
        self.commands_fault("new", (("new", 0),))
        self.commands_fault("new", (("new", 1), ("new", 1)))
        self.commands_fault("new", (("look", 0, 0, (), ()), ("new", 0)))
        self.commands_fault("new", (("new", 1), ("look", 1, 0, (), ()), ("new", 1)))
        self.assertIsNone(self.checks(((0,), (1, 0), (("new", 1),), (0, 0))))

    def test_live(self):
        gone = ("look", 0, 0, (), ())
        for command in (
            ("flip", 1, ()), ("sign", 1, ()), ("look", 1, 0, (), ()), ("tie", 0, 1), ("tie", 1, 2), ("flip", 1, (1,)),
            ("flip", 1, (2,)), ("look", 1, 0, (2,), (2,)),
        ):
            self.commands_fault("live", (command,))
            self.commands_fault("live", (gone, command))
            self.commands_fault("live", (("new", 1), ("look", 1, 0, (), ()), command))
        for command in (("flip", 0, (0,)), ("sign", 0, ()), gone, ("look", 0, 0, (0,), ()), ("tie", 0, 1)):
            self.commands_fault("live", (("new", 1), gone, command))
        self.commands_fault("live", (("flip", 2, ()), ), (0, 1), (1, 0))
        self.commands_fault("live", (("tie", 0, 2), ), (0, 1), (1, 0))
        self.commands_fault("live", (("tie", 1, 2), ), (2,), (2,))

    def test_lot(self):
        for lot in ((0,), (1,), (2,), (0, 1), (2, 3)):
            for command in (
                ("flip", 0, lot), ("sign", 0, lot), ("look", 0, 0, lot, ()), ("look", 0, 0, (), lot),
                ("look", 0, 0, lot, lot),
            ):
                self.commands_fault("lot", (command,))
                self.commands_fault("lot", (("new", 1), command))
        looked = (("new", 1), ("look", 0, 0, (), ()))
        for command in (("flip", 1, (0, 1)), ("sign", 1, (1,)), ("look", 1, 0, (0,), (1,)), ("look", 1, 0, (0, 2), (0,))):
            self.commands_fault("lot", looked + (command,))
        for command in (("flip", 1, (0,)), ("sign", 1, (0,)), ("sign", 1, ())):
            self.assertIsNone(self.checks(((0,), (1,), looked + (command,), (0,))))
        self.assertIsNone(self.checks(((0,), (), looked + (("look", 1, 7, (0,), (0,)),), ())))

    def test_left_and_turns(self):
        for outs in ((), (0,), (1,), (2,), (1, 0), (0, 1), (0, 1, 2), (1, 2)):
            self.faulty("left", -1, ((0,), outs, (("new", 1), ("new", 2), ("look", 0, 0, (), ()), ("new", 3)), [8]))
        for outs in ((0, 1), (1, 0)):
            self.assertIsNone(self.checks(((0,), outs, (("new", 1),), (0, 7))))
            for turns in (
                None, (), (0,), (0, 0, 0), [0, 0], (0, 8), (-1, 0), (True, 0), (0, False), (0, "0"), (0, None), 0, "ab",
            ):
                self.faulty("turns", -1, ((0,), outs, (("new", 1),), turns))
        self.faulty("turns", -1, ((), (), (), (0,)))
        self.faulty("turns", -1, ((), (), (), []))

    def test_one_wrong_place(self):
        for program in (STEP, TWICE):
            for wrong in wrong_places(program, (None, True, False, 0, 1, 8, 10000, "", (), [], (0,), (1,), "sign")):
                self.checks(wrong)

    def test_changed_programs(self):
        chance = random.Random(3737)
        met = set()
        for k in range(6000):
            fault = self.checks(retied(chance, PROGRAMS[k % len(PROGRAMS)]))
            met.add(fault and fault[0])
        for word in ("shape", "ins", "outs", "commands", "form", "new", "live", "lot", "left", "turns", None):
            self.assertIn(word, met)

    def test_far_beyond_the_limits(self):
        many = 1200
        commands = tuple(("new", k) for k in range(many))
        self.assertIsNone(self.checks(((), tuple(range(many)), commands, (0,) * many)))
        self.faulty("left", -1, ((), tuple(range(many - 1)), commands, (0,) * many))
        looks = tuple(("look", k, 1, (), ()) for k in range(900))
        lot = tuple(range(900))
        program = (tuple(range(901)), (900,), looks + (("flip", 900, lot),), (0,))
        self.same(lets_program(program), 900)
        self.faulty("lot", 900, (*program[:2], looks + (("flip", 900, lot + (901,)),), (0,)))
        self.faulty("form", 0, ((0,), (0,), (nested(28),), (0,)))
        self.faulty("form", 0, ((0,), (0,), (("flip", 0, nested(27)),), (0,)))
        self.faulty("ins", -1, (tuple(range(9990, 10010)), (), (), ()))
        self.faulty("form", 0, ((), (), (("new", 10 ** 59),), ()))


class KindsTest(StrictCase):
    def test_looks_dots_counts(self):
        for ins, outs, commands, turns in PROGRAMS:
            program = (ins, outs, commands, turns)
            _, gone, there = dots_at(ins, commands)
            self.same(looks_of(program), tuple(gone))
            self.same(dots_of(program), tuple(sorted(there)))
            counts = tuple(len(dots_at(ins, commands[:k + 1])[0]) for k in range(len(commands)))
            self.same(live_counts(program), counts)

    def test_some(self):
        self.same(looks_of(TWICE), (0, 1))
        commands = (("new", 7), ("look", 9, 0, (), ()), ("look", 2, 0, (), ()), ("look", 7, 0, (9,), (2,)))
        self.same(looks_of(((9, 2), (), commands, ())), (9, 2, 7))
        self.same(dots_of(((9, 2), (), commands, ())), (2, 7, 9))
        self.same(live_counts(((9, 2), (), commands, ())), (3, 2, 1, 0))
        for call in (looks_of, dots_of, live_counts):
            self.same(call(NOTHING), ())
        self.same(live_counts(((4, 1), (1, 4), (), (0, 0))), ())

    def test_with_turns(self):
        chance = random.Random(38)
        for ins, outs, commands, turns in PROGRAMS:
            program = (ins, outs, commands, turns)
            others = tuple(chance.randint(0, 7) for _ in looks_of(program))
            found = with_turns(program, others)
            self.assertTrue(is_program(found))
            self.same((found[0], found[1], found[3]), (ins, outs, turns))
            left = list(others)
            wanted = tuple(
                (word, rest[0], left.pop(0), *rest[2:]) if word == "look" else (word, *rest) for word, *rest in commands
            )
            self.same(found[2], wanted)
            self.same(with_turns(found, tuple(command[2] for command in commands if command[0] == "look")), program)
            for wrong in (others + (0,), others[1:] if others else [], list(others), others[1:] + (8,), others[1:] + (True,)):
                if len(wrong) != len(others) or type(wrong) is list or others:
                    self.refuses("turns", with_turns, program, wrong)

    def test_wide_programs(self):
        program = some_program(random.Random(1), 6, 14, 30, 120, 500)
        self.assertIsNone(fault_plainly(program))
        self.assertTrue(is_program(program))
        self.same(len(live_counts(program)), len(program[2]))
