"""[49] to [52]: steps, what they do, and how programs are led together by them."""

import itertools
import random

from lookundone.accounts import account_of, names_of
from lookundone.branches import branch_of
from lookundone.errors import InvalidPaper
from lookundone.leading import led_together, standard_steps
from lookundone.likeness import alike, is_nought
from lookundone.newoutcomes import new_outcomes
from lookundone.programchecker import is_program
from lookundone.programkinds import looks_of
from lookundone.standards import apart_of, program_of, standard_of
from lookundone.stepchecker import lets_steps
from lookundone.steps import step_done, step_outcomes, steps_of
from tests.common import ANY_VALUES, STEP, TWICE, StrictCase
from tests.program_oracles import all_bits, fault_plainly
from tests.some_programs import some_accounts, some_program, some_programs

NOTHING = ((), (), (), ())
WORDS = ("cancel", "drop", "into", "join", "past", "shift", "swap")
PROGRAMS = [STEP, TWICE, NOTHING] + some_programs(60, 49, looks=3, widest=4, commands=16)


def added(*lots):
    return tuple(sorted(dot for dot in set(sum(lots, ())) if sum(dot in lot for lot in lots) % 2))


def lots_of(command):
    return [part for part in command[1:] if isinstance(part, tuple)]


def swap_fits(one, other):
    """Whether a swap fits two commands, word by word as the document tells it."""
    for look, command in ((one, other), (other, one)):
        if look[0] == "look" and any(look[1] in lot for lot in lots_of(command)):
            return False
    named = [set(command[1:] if command[0] == "tie" else command[1:2]) for command in (one, other)]
    both = {one[0], other[0]}
    return not named[0] & named[1] or both in ({"tie"}, {"tie", "sign"}) or both <= {"flip", "sign"}


def behind_plainly(commands, word, place):
    """The commands behind the step, None if it does not fit."""
    one = commands[place]
    ahead, two, rest = commands[:place], commands[place:place + 2], commands[place + 2:]
    if word == "drop":
        return ahead + commands[place + 1:] if one[0] in ("flip", "sign") and not one[2] else None
    if word == "shift":
        return shift_plainly(commands, place) if one[0] == "look" and one[4] else None
    if len(two) < 2:
        return None
    other = two[1]
    if word == "swap":
        return ahead + (other, one) + rest if swap_fits(one, other) else None
    if word == "cancel":
        return ahead + rest if one[0] == "tie" and other == one else None
    kinds = (one[0], other[0])
    if word == "past" and kinds == ("flip", "tie") and one[1] in other[1:]:
        far = sum(other[1:]) - one[1]
        return ahead + (other, one, ("sign", far, one[2])) + rest
    if word == "join" and kinds in (("flip", "flip"), ("sign", "sign")) and one[1] == other[1]:
        return ahead + ((one[0], one[1], added(one[2], other[2])),) + rest
    if word == "into" and kinds in (("flip", "look"), ("sign", "look")) and one[1] == other[1]:
        waits, adds = other[3:]
        lots = (added(waits, one[2]), adds) if one[0] == "flip" else (waits, added(adds, one[2]))
        return ahead + ((*other[:3], *lots),) + rest
    return None


def shift_plainly(commands, place):
    word, dot, turn, waits, adds = commands[place]
    later = []
    for command in commands[place + 1:]:
        later.append(tuple(
            added(part, adds) if isinstance(part, tuple) and dot in part else part for part in command
        ))
    return commands[:place] + ((word, dot, turn, waits, ()),) + tuple(later)


def all_steps_plainly(program):
    return tuple(
        (word, place) for word in WORDS for place in range(len(program[2]))
        if behind_plainly(program[2], word, place) is not None
    )


def finished(ins, commands):
    """The program of these commands, with all live dots as outs."""
    live = list(ins)
    for command in commands:
        if command[0] == "new":
            live.append(command[1])
        elif command[0] == "look" and command[1] in live:
            live.remove(command[1])
    return tuple(ins), tuple(live), tuple(commands), (0,) * len(live)


class StepCase(StrictCase):
    def follows(self, program):
        """steps_of must tell all steps, and step_done what each does; returns them."""
        wanted = all_steps_plainly(program)
        found = steps_of(program)
        self.same(found, wanted)
        self.assertEqual(list(found), sorted(found))
        ins, outs, commands, turns = program
        for word, place in wanted:
            self.same(step_done(program, (word, place)), (ins, outs, behind_plainly(commands, word, place), turns))
        return found

    def same_branches(self, program, step):
        """Each branch must be that behind the step for the outcomes that step_outcomes tells, times a unit."""
        later = step_done(program, step)
        met = set()
        for outcomes in all_bits(len(looks_of(program))):
            others = step_outcomes(program, step, outcomes)
            met.add(others)
            one, other = branch_of(program, outcomes), branch_of(later, others)
            self.assertTrue(alike(one, other) is not None or (is_nought(one) and one == other), (program, step))
            self.same(new_outcomes(later, others), new_outcomes(program, outcomes))
        self.assertEqual(sorted(met), all_bits(len(looks_of(program))))


class StepsTest(StepCase):
    def two_commands(self, one, other, ahead=(("new", 8), ("new", 9), ("look", 8, 0, (), ()), ("look", 9, 0, (), ()))):
        """The steps at the two commands, behind others after which 8 and 9 are told."""
        program = finished((0, 1, 2, 3), ahead + (one, other))
        self.assertIsNone(fault_plainly(program))
        return [word for word, place in self.follows(program) if place == len(ahead)]

    def test_all_pairs(self):
        lots = ((), (8,), (8, 9), (0, 9), (0,))
        pool = [("new", 4), ("new", 5), ("tie", 0, 1), ("tie", 0, 2), ("tie", 1, 2), ("tie", 2, 3)]
        pool += [(word, dot, lot) for word in ("flip", "sign") for dot in (0, 1, 2) for lot in lots]
        pool += [("look", dot, 3, waits, adds) for dot in (0, 1, 2) for waits in lots[1:] for adds in lots[:3]]
        ahead = (("new", 8), ("new", 9), ("look", 8, 0, (), ()), ("look", 9, 0, (), (8,)))
        met = set()
        for one, other in itertools.product(pool, repeat=2):
            program = finished((0, 1, 2, 3), ahead + (one, other))
            if fault_plainly(program) is None:
                met.update(word for word, place in self.follows(program) if place >= len(ahead))
        self.assertEqual(met, set(WORDS))

    def test_swaps(self):
        tie, look = ("tie", 0, 1), ("look", 0, 3, (8,), ())
        for one, other in (
            (("new", 4), ("new", 5)), (("new", 4), tie), (("new", 4), look), (("new", 4), ("flip", 0, ())), (tie, ("tie", 1, 2)),
            (tie, ("tie", 0, 2)), (tie, ("tie", 2, 3)), (tie, ("sign", 0, (8,))), (tie, ("sign", 1, ())), (tie, ("sign", 2, ())),
            (tie, ("flip", 2, (8,))), (tie, ("look", 2, 0, (), ())), (("flip", 0, (8,)), ("sign", 0, (9,))),
            (("flip", 0, ()), ("flip", 1, ())), (("sign", 0, (8,)), ("flip", 0, (8,))), (("sign", 0, (8,)), ("sign", 1, (8,))),
            (look, ("look", 1, 0, (8,), (9,))), (look, ("flip", 1, (8, 9))), (look, ("tie", 1, 2)), (look, ("new", 4)),
        ):
            for two in ((one, other), (other, one)):
                # A drop and a shift are about one command alone.
                words = [word for word in self.two_commands(*two) if word not in ("drop", "shift")]
                self.assertEqual(words, ["swap"], two)
        for one, other in (
            (look, ("flip", 1, (0,))), (look, ("sign", 1, (0, 8))), (look, ("look", 1, 0, (0,), ())), (tie, look),
            (look, ("look", 1, 0, (8,), (0, 9))), (("new", 4), ("tie", 0, 4)), (("new", 4), ("flip", 4, ())),
            (("new", 4), ("sign", 4, (8,))), (("new", 4), ("look", 4, 0, (), ())), (tie, ("flip", 0, (8,))),
            (tie, ("flip", 1, (8,))), (tie, ("look", 1, 0, (), ())),
        ):
            self.assertNotIn("swap", self.two_commands(one, other), (one, other))

    def test_pairs_that_more_fit(self):
        tie = ("tie", 0, 1)
        for one, other, words in (
            (tie, tie, ["cancel", "swap"]), (("flip", 0, (8,)), tie, ["past"]), (("flip", 1, (8,)), tie, ["past"]),
            (("flip", 2, (8,)), tie, ["swap"]), (("sign", 0, (8,)), tie, ["swap"]), (("flip", 0, ()), tie, ["drop", "past"]),
            (("flip", 0, (8,)), ("look", 0, 1, (), ()), ["into"]), (("sign", 0, (8,)), ("look", 0, 1, (9,), ()), ["into"]),
            (("sign", 0, ()), ("look", 0, 1, (9,), ()), ["drop", "into"]), (("flip", 1, (8,)), ("look", 0, 1, (), ()), ["swap"]),
            (("flip", 0, (8,)), ("flip", 0, (9,)), ["join", "swap"]), (("sign", 0, (8,)), ("sign", 0, (8,)), ["join", "swap"]),
            (("flip", 0, (8,)), ("sign", 0, (8,)), ["swap"]), (("flip", 0, ()), ("flip", 0, ()), ["drop", "join", "swap"]),
            (("flip", 0, (8,)), ("flip", 1, (8,)), ["swap"]), (("look", 0, 1, (), (8,)), ("new", 4), ["shift", "swap"]),
            (("look", 0, 1, (8,), ()), ("new", 4), ["swap"]), (("look", 0, 1, (), (8, 9)), ("sign", 1, (0,)), ["shift"]),
            (tie, ("tie", 0, 2), ["swap"]), (tie, ("flip", 0, (8,)), []), (("look", 0, 1, (), ()), ("flip", 1, (0,)), []),
        ):
            self.assertEqual(self.two_commands(one, other), words, (one, other))

    def test_steps_of_programs(self):
        for program in PROGRAMS:
            self.follows(program)
        self.same(steps_of(NOTHING), ())
        self.same(steps_of(((0,), (0,), (("flip", 0, ()),), (0,))), (("drop", 0),))
        self.same(steps_of(((0, 1), (0, 1), (("tie", 0, 1),), (0, 0))), ())
        self.same(steps_of(((0, 1), (0, 1), (("tie", 0, 1),) * 3, (0, 0))),
                  (("cancel", 0), ("cancel", 1), ("swap", 0), ("swap", 1)))
        between = (("tie", 0, 1), ("new", 2), ("tie", 0, 1))
        self.same(steps_of(((0, 1), (0, 1, 2), between, (0, 0, 0))), (("swap", 0), ("swap", 1)))

    def test_what_steps_do(self):
        ahead = (("new", 8), ("new", 9), ("look", 8, 0, (), ()), ("look", 9, 0, (), ()))
        for word, commands, wanted in (
            ("past", (("flip", 0, (8,)), ("tie", 0, 1)), (("tie", 0, 1), ("flip", 0, (8,)), ("sign", 1, (8,)))),
            ("past", (("flip", 1, (8,)), ("tie", 0, 1)), (("tie", 0, 1), ("flip", 1, (8,)), ("sign", 0, (8,)))),
            ("into", (("flip", 0, (8,)), ("look", 0, 1, (8, 9), (8,))), (("look", 0, 1, (9,), (8,)),)),
            ("into", (("sign", 0, (8, 9)), ("look", 0, 1, (8, 9), (8,))), (("look", 0, 1, (8, 9), (9,)),)),
            ("into", (("sign", 0, ()), ("look", 0, 1, (), (8,))), (("look", 0, 1, (), (8,)),)),
            ("join", (("flip", 0, (8,)), ("flip", 0, (8, 9))), (("flip", 0, (9,)),)),
            ("join", (("sign", 0, (8,)), ("sign", 0, (8,))), (("sign", 0, ()),)),
            ("drop", (("sign", 0, ()),), ()),
            ("cancel", (("tie", 0, 1), ("tie", 0, 1)), ()),
            ("swap", (("tie", 0, 1), ("tie", 0, 1)), (("tie", 0, 1), ("tie", 0, 1))),
        ):
            for more in ((), (("sign", 1, (8,)), ("new", 7))):
                program = finished((0, 1), ahead + commands + more)
                self.same(step_done(program, (word, 4)), (*program[:2], ahead + wanted + more, program[3]))

    def test_shift_over_commands(self):
        commands = (
            ("new", 8), ("new", 9), ("look", 8, 0, (), ()), ("look", 9, 5, (), (8,)), ("flip", 0, (9,)), ("sign", 0, (8, 9)),
            ("new", 7), ("tie", 0, 7), ("flip", 7, (8,)), ("look", 0, 1, (8, 9), (9,)), ("look", 7, 1, (9,), (0, 8)), ("sign", 1, ()),
        )
        program = finished((0, 1), commands)
        self.assertIsNone(fault_plainly(program))
        self.same(step_done(program, ("shift", 3))[2][3:], (
            ("look", 9, 5, (), ()), ("flip", 0, (8, 9)), ("sign", 0, (9,)), ("new", 7), ("tie", 0, 7), ("flip", 7, (8,)),
            ("look", 0, 1, (9,), (8, 9)), ("look", 7, 1, (8, 9), (0, 8)), ("sign", 1, ()),
        ))
        self.same(step_done(program, ("shift", 9))[2][9:], (
            ("look", 0, 1, (8, 9), ()), ("look", 7, 1, (9,), (0, 8, 9)), ("sign", 1, ()),
        ))

    def test_no_step(self):
        for program in PROGRAMS:
            steps = steps_of(program)
            many = len(program[2])
            for word in WORDS + ("Swap", "", "look", "swaps"):
                for place in (*range(-1, many + 2), True, False, None, "0", (0,), [0], 10 ** 59):
                    if repr((word, place)) not in map(repr, steps):
                        self.refuses("step", step_done, program, (word, place))
                        self.refuses("step", step_outcomes, program, (word, place), None)
            for word, place in steps:
                for wrong in ([word, place], (word,), (word, place, 0), (place, word), ((word, place),), ((word,), place)):
                    self.refuses("step", step_done, program, wrong)
                    self.refuses("step", step_outcomes, program, wrong, ())
        for wrong in ANY_VALUES:
            self.refuses("step", step_done, TWICE, wrong)
            self.refuses("step", step_outcomes, TWICE, wrong, wrong)

    def test_places_that_are_true(self):
        program = ((0, 1), (0, 1), (("tie", 0, 1),) * 3, (0, 0))
        for wrong in (("cancel", True), ("cancel", False), ("swap", True), ("swap", False)):
            self.refuses("step", step_done, program, wrong)
            self.refuses("step", step_outcomes, program, wrong, ())


class OutcomesTest(StepCase):
    def test_branches(self):
        met = set()
        for program in PROGRAMS[:40]:
            for step in steps_of(program):
                self.same_branches(program, step)
                met.add(step[0])
        self.assertEqual(met, set(WORDS))

    def test_each_word(self):
        looks = (("look", 0, 1, (), ()), ("look", 1, 2, (), (0,)), ("look", 2, 3, (1,), (0, 1)), ("look", 3, 4, (0,), ()))
        program = ((0, 1, 2, 3), (), looks, ())
        for outcomes in all_bits(4):
            a, b, c, d = outcomes
            self.same(step_outcomes(program, ("shift", 1), outcomes), (a, a ^ b, c, d))
            self.same(step_outcomes(program, ("shift", 2), outcomes), (a, b, a ^ b ^ c, d))
            self.same(step_outcomes(program, ("swap", 2), outcomes), (a, b, d, c))
        self.refuses("step", step_outcomes, program, ("swap", 1), (0, 0, 0, 0))
        mixed = finished((0, 1, 4), (
            ("look", 0, 1, (), ()), ("new", 2), ("flip", 1, ()), ("flip", 1, (0,)), ("tie", 1, 2), ("sign", 4, (0,)),
            ("look", 4, 1, (), ()), ("tie", 1, 2), ("tie", 1, 2), ("look", 1, 0, (), ()),
        ))
        steps = steps_of(mixed)
        for step in (("swap", 0), ("swap", 1), ("drop", 2), ("join", 2), ("past", 3), ("into", 5), ("cancel", 7), ("swap", 6)):
            self.assertIn(step, steps)
            for outcomes in all_bits(3):
                self.same(step_outcomes(mixed, step, outcomes), outcomes)

    def test_odd_outcomes(self):
        for program in PROGRAMS:
            many = len(looks_of(program))
            wrongs = [None, 0, [0] * many, "0" * (many + 1), (0,) * (many + 1), (0,) * many + (2,)]
            if many:
                wrongs += [(0,) * (many - 1), (2,) * many, (True,) * many, (False,) * many, (None,) * many, (-1,) * many]
            for step in steps_of(program):
                for wrong in wrongs:
                    self.refuses("outcomes", step_outcomes, program, step, wrong)
            for wrong in wrongs:
                self.refuses("step", step_outcomes, program, ("swap", -1), wrong)


def walked(chance, program, many):
    """The program behind some steps, and the steps."""
    done = []
    for _ in range(many):
        steps = [step for step in steps_of(program) if len(program[2]) < 40 or step[0] != "past"]
        if not steps:
            break
        done.append(chance.choice(steps))
        program = step_done(program, done[-1])
    return program, tuple(done)


def flips_and_ties(chance, many, widest=7):
    """A program with flips and ties by turns, so that many signs come of them."""
    ins = tuple(range(3))
    commands = [("new", 10), ("look", 10, 1, (), ()), ("new", 11), ("look", 11, 2, (10,), (10,))]
    live = list(ins)
    while len(live) < widest - 2:
        commands.append(("new", 20 + len(live)))
        live.append(20 + len(live))
    while len(commands) < many:
        commands.append(("flip", chance.choice(live), chance.choice(((10,), (11,), (10, 11)))))
        commands.append(("tie", *sorted(chance.sample(live, 2))))
    return finished(ins, commands[:many])


class LeadingTest(StepCase):
    def leads(self, program, steps, end):
        """The steps must fit one after the other and lead to the end, all as the document bounds it."""
        self.assertIs(type(steps), tuple)
        self.assertLessEqual(len(steps), 2000)
        later = program
        for step in steps:
            self.assertIsNotNone(behind_plainly(later[2], *step), step)
            later = step_done(later, step)
            self.assertLessEqual(len(later[2]), 60)
        self.same(later, end)
        self.same(lets_steps(program, steps), end)

    def test_standard_steps(self):
        for program in PROGRAMS:
            self.leads(program, standard_steps(program), standard_of(program))
        self.same(standard_steps(NOTHING), ())
        self.same(standard_steps(standard_of(TWICE)), ())

    def test_thirty_commands(self):
        chance = random.Random(51)
        for k in range(150):
            program = some_program(chance, k % 4, 7, 8, 45, 100)
            # At most thirty commands, with all live dots as outs.
            program = finished(program[0], program[2][:30])
            self.assertIsNone(fault_plainly(program))
            self.leads(program, standard_steps(program), standard_of(program))
        for k in range(60):
            program = flips_and_ties(chance, 30, 4 + k % 4)
            self.assertEqual(len(program[2]), 30)
            self.leads(program, standard_steps(program), standard_of(program))

    def test_many_adds(self):
        dots = tuple(range(12))
        looks = tuple(("look", dot, dot % 8, dots[:dot:2], dots[:dot]) for dot in dots)
        program = ((*dots, 20), (20,), looks + (("sign", 20, dots), ("flip", 20, dots[::2])), (0,))
        self.assertIsNone(fault_plainly(program))
        self.leads(program, standard_steps(program), standard_of(program))
        backwards = tuple(("look", 11 - dot, 1, (), tuple(range(12 - dot, 12))) for dot in dots)
        program = ((*dots, 20), (20,), backwards + (("sign", 20, dots),), (0,))
        self.leads(program, standard_steps(program), standard_of(program))

    def test_looks_that_stand_far_from_their_places(self):
        # 5 waits for 9, so it comes behind 7, though it is less.
        commands = (
            ("look", 9, 0, (), ()), ("look", 5, 0, (9,), ()), ("look", 7, 0, (), ()), ("look", 1, 0, (5,), ()),
            ("look", 3, 0, (), ()), ("look", 8, 0, (), ()),
        )
        program = ((1, 3, 5, 7, 8, 9), (), commands, ())
        self.same(tuple(command[1] for command in standard_of(program)[2]), (3, 7, 8, 9, 5, 1))
        self.leads(program, standard_steps(program), standard_of(program))
        for sequence in itertools.permutations((0, 1, 2, 3)):
            for waits in itertools.product((False, True), repeat=6):
                told = iter(waits)
                commands = tuple(
                    ("look", dot, 0, tuple(sorted(other for other in sequence[:k] if next(told))), ())
                    for k, dot in enumerate(sequence)
                )
                program = ((0, 1, 2, 3), (), commands, ())
                self.leads(program, standard_steps(program), standard_of(program))

    def test_led_together(self):
        chance = random.Random(52)
        for program in PROGRAMS:
            if len(program[2]) > 30:
                continue
            one, _ = walked(chance, program, 8)
            other, _ = walked(chance, program, 8)
            word, steps, others = led_together(one, other)
            self.same(word, "led")
            end = lets_steps(one, steps)
            self.leads(one, steps, end)
            self.leads(other, others, end)
            self.same(lets_steps(program, standard_steps(program)), end)

    def test_one_difference_of_each_kind(self):
        chance = random.Random(53)
        program = (
            (0, 1), (1, 3),
            (
                ("new", 3), ("new", 2), ("tie", 0, 2), ("tie", 1, 2), ("look", 0, 1, (), ()), ("flip", 2, (0,)),
                ("look", 2, 3, (), (0,)), ("flip", 3, (0, 2)), ("sign", 1, (2,)),
            ),
            (0, 5),
        )
        commands = program[2]
        changes = (
            ("ins", ((1, 0), *program[1:])),
            ("outs", (program[0], (3, 1), *program[2:])),
            ("dots", (*program[:2], commands + (("new", 9), ("look", 9, 0, (), ())), program[3])),
            ("ties", (*program[:2], commands[:3] + commands[4:], program[3])),
            (("angle", 0), (*program[:2], commands[:4] + (("look", 0, 2, (), ()),) + commands[5:], program[3])),
            (("angle", 3), (*program[:3], (0, 6))),
            (("waits", 2), (*program[:2], commands[:5] + commands[6:], program[3])),
            (("flip", 3), (*program[:2], commands[:7] + (("flip", 3, (2,)),) + commands[8:], program[3])),
            (("sign", 1), (*program[:2], commands[:8], program[3])),
            (("sign", 3), (*program[:2], commands + (("sign", 3, (0,)),), program[3])),
        )
        for wanted, changed in changes:
            self.assertTrue(is_program(changed), wanted)
            for _ in range(3):
                one, _ = walked(chance, program, 12)
                other, _ = walked(chance, changed, 12)
                self.same(led_together(one, other), ("apart", wanted))
        for one, other in itertools.product(PROGRAMS[:12], repeat=2):
            difference = apart_of(account_of(one), account_of(other))
            if difference is not None:
                self.same(led_together(one, other), ("apart", difference))

    def test_no_program(self):
        for wrong in ANY_VALUES:
            if repr(wrong) != repr(NOTHING):
                self.refuses("other", led_together, STEP, wrong)
        for wrong in (list(STEP), STEP[:3], (*STEP[:3], (8,)), (*STEP[:2], STEP[2][1:], STEP[3]), account_of(STEP)):
            self.refuses("other", led_together, TWICE, wrong)


class StepCheckerTest(StepCase):
    def test_walks(self):
        chance = random.Random(50)
        for program in PROGRAMS:
            end, steps = walked(chance, program, 15)
            self.same(lets_steps(program, steps), end)
            for k in range(len(steps)):
                self.same(lets_steps(program, steps[:k]), lets_steps(program, steps[:k + 1][:-1]))
                wrong = steps[:k] + (("swap", -1),) + steps[k + 1:]
                self.raises(InvalidPaper, {"word": "step", "at": k}, lets_steps, program, wrong)
                self.raises(InvalidPaper, {"word": "step", "at": k}, lets_steps, program, wrong + (None,))
            more = steps + (("drop", len(end[2])),)
            self.raises(InvalidPaper, {"word": "step", "at": len(steps)}, lets_steps, program, more)

    def test_shapes(self):
        for wrong in (None, True, 0, 1, "", "swap", [], [("shift", 5)], [("swap", 2)]):
            self.raises(InvalidPaper, {"word": "shape", "at": -1}, lets_steps, TWICE, wrong)
        for wrong in (None, (), [], 0, True, "", ["swap", 2], ("swap",), ("swap", 2, 2), ("swap", "2"), ("swop", 2)):
            self.raises(InvalidPaper, {"word": "step", "at": 0}, lets_steps, TWICE, (wrong,))
            self.raises(InvalidPaper, {"word": "step", "at": 1}, lets_steps, TWICE, (("swap", 2), wrong, None))
        self.same(lets_steps(TWICE, ()), TWICE)
        # A step that fits no more, or not yet.
        self.raises(InvalidPaper, {"word": "step", "at": 1}, lets_steps, TWICE, (("shift", 5), ("shift", 5)))
        self.raises(InvalidPaper, {"word": "step", "at": 0}, lets_steps, TWICE, (("swap", 1), ("swap", 2)))
        self.raises(InvalidPaper, {"word": "step", "at": 0}, lets_steps, TWICE, ("swap", 2))
        self.raises(InvalidPaper, {"word": "step", "at": 0}, lets_steps, NOTHING, (("swap", 0),))

    def test_any_values(self):
        for wrong in ANY_VALUES:
            if wrong == ():
                self.same(lets_steps(TWICE, ()), TWICE)
                continue
            word, at = ("step", 0) if type(wrong) is tuple else ("shape", -1)
            self.raises(InvalidPaper, {"word": word, "at": at}, lets_steps, TWICE, wrong)
            self.raises(InvalidPaper, {"word": "step", "at": 0}, lets_steps, TWICE, (wrong,))


class ConsequencesTest(StepCase):
    def test_no_step_changes_the_account(self):
        chance = random.Random(54)
        for program in PROGRAMS:
            for step in steps_of(program):
                later = step_done(program, step)
                self.assertTrue(is_program(later))
                self.same(account_of(later), account_of(program))
                self.same(standard_of(later), standard_of(program))
            later, _ = walked(chance, program, 40)
            self.same(account_of(later), account_of(program))

    def test_only_swaps_fit_a_standard_program(self):
        for program in PROGRAMS:
            self.assertTrue(all(word == "swap" for word, _ in steps_of(standard_of(program))))
        for account in some_accounts(60, 55):
            program = program_of(account)
            self.assertTrue(all(word == "swap" for word, _ in steps_of(program)))
            self.same(account_of(program), account)
            self.same(names_of(program), tuple((dot, (dot,)) for dot in sorted(looks_of(program))))
