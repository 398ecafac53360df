"""[7], [8], [45] to [48]: accounts, names, outcomes told anew, standard programs, where accounts differ."""

import itertools
import random

from lookundone.accountbranches import account_branch, account_right
from lookundone.accountkinds import arrows_in, is_account, plan_in, waits_at
from lookundone.accounts import account_of, names_of
from lookundone.branches import branch_of
from lookundone.compiling import compiled
from lookundone.likeness import alike, is_nought
from lookundone.newoutcomes import new_outcomes, old_outcomes
from lookundone.plainprograms import plain_program
from lookundone.programchecker import is_program
from lookundone.programkinds import dots_of, looks_of
from lookundone.rightness import is_right
from lookundone.standards import apart_of, program_of, standard_of
from lookundone.webkinds import is_web, looked_of, made_of
from tests.common import ANY_VALUES, EMPTY, HALF, ROW, STEP, TWICE, StrictCase, nested, wrong_places
from tests.program_oracles import all_bits, is_lot_plainly, shown_account
from tests.some_programs import some_account, some_accounts, some_program, some_programs
from tests.some_webs import some_plans
from tests.test_circuits import some_circuit

NOTHING = (EMPTY, (), (), (), ())
# Three looked dots in a row, 0 to 2, and the out 3.
THREE = ((0, 1, 2, 3), ((0, 1), (1, 2), (2, 3)), (0,), (3,))
ACCOUNTS = [HALF, NOTHING] + some_accounts(60, 45)
PROGRAMS = [STEP, TWICE, ((), (), (), ())] + some_programs(60, 46, looks=4, commands=16)


def with_waits(*waits):
    return (THREE, (0, 1, 2, 3), waits, ((),), ((),))


def is_account_plainly(thing):
    """Whether thing is an account; rings are looked for by going round and round."""
    if type(thing) is not tuple or len(thing) != 5:
        return False
    web, angles, waits, flips, signs = thing
    if not is_web(web) or type(angles) is not tuple or len(angles) != len(web[0]):
        return False
    if not all(type(turn) is int and 0 <= turn < 8 for turn in angles):
        return False
    looked = [dot for dot in web[0] if dot not in web[3]]
    for rows, many in ((waits, len(looked)), (flips, len(web[3])), (signs, len(web[3]))):
        if type(rows) is not tuple or len(rows) != many:
            return False
        if not all(is_lot_plainly(lot) and all(dot in looked for dot in lot) for lot in rows):
            return False
    far = {dot: set(lot) for dot, lot in zip(looked, waits)}
    for _ in looked:
        far = {dot: lot.union(*[far[other] for other in lot]) for dot, lot in far.items()}
    return not any(dot in lot for dot, lot in far.items())


class AccountKindsTest(StrictCase):
    def checks(self, thing):
        wanted = is_account_plainly(thing)
        self.assertIs(is_account(thing), wanted, thing)
        return wanted

    def test_accounts(self):
        for account in ACCOUNTS:
            self.assertTrue(self.checks(account))

    def test_any_values(self):
        for thing in ANY_VALUES + (
            (EMPTY, (), (), (), ()), (EMPTY, (), (), ()), (EMPTY, (), (), (), (), ()), [EMPTY, (), (), (), ()],
            (EMPTY, [], (), (), ()), (EMPTY, (), [], (), ()), (EMPTY, (), (), [], ()), (EMPTY, (), (), (), []),
            (EMPTY, (), None, (), ()), (EMPTY, (), (), 0, ()), (EMPTY, (), (), (), ((),)), (EMPTY, (0,), (), (), ()),
            ((), (), (), (), ()), (nested(29), (), (), (), ()), (EMPTY, (), nested(29), (), ()),
        ):
            self.assertEqual(self.checks(thing), repr(thing) == repr(NOTHING), thing)

    def test_one_wrong_place(self):
        met = 0
        for account in (HALF, with_waits((), (0,), (0, 1))):
            for wrong in wrong_places(account, (None, True, False, 0, 1, 2, 8, -1, 10000, "", (), [], (0,), (1,), (0, 1), (3,))):
                met += self.checks(wrong)
        self.assertGreater(met, 10)

    def test_waits_in_rings(self):
        lots = [lot for many in range(4) for lot in itertools.combinations((0, 1, 2), many)]
        found = [waits for waits in itertools.product(lots, repeat=3) if self.checks(with_waits(*waits))]
        self.assertEqual(len(found), 25)
        for waits in (
            ((0,), (), ()), ((), (1,), ()), ((), (), (2,)), ((1,), (0,), ()), ((2,), (), (0,)), ((1,), (2,), (0,)),
            ((2,), (0,), (1,)), ((1, 2), (2,), (0,)), ((), (2,), (0, 1)),
        ):
            self.assertIs(is_account(with_waits(*waits)), False)

    def test_long_rings(self):
        many = 60
        web = (tuple(range(many)), (), (), ())
        chain = tuple((k + 1,) for k in range(many - 1))
        self.assertIs(is_account((web, (0,) * many, chain + ((),), (), ())), True)
        for last in (0, 1, 30, many - 1):
            self.assertIs(is_account((web, (0,) * many, chain + ((last,),), (), ())), False)
        # Far beyond the limits.
        many = 700
        web = (tuple(range(many)), (), (), ())
        chain = tuple((k + 1,) for k in range(many - 1))
        self.assertIs(is_account((web, (0,) * many, chain + ((),), (), ())), True)
        self.assertIs(is_account((web, (0,) * many, chain + ((350,),), (), ())), False)

    def test_parts(self):
        for account in ACCOUNTS:
            web, angles, waits, _, _ = account
            self.same(plan_in(account), (web, angles))
            looked = [dot for dot in web[0] if dot not in web[3]]
            for dot, lot in zip(looked, waits):
                self.same(waits_at(account, dot), lot)
            for dot in (*web[3], 9999, -1, 10000, None, "0", True, False, (0,), [0]):
                self.refuses("dot", waits_at, account, dot)
            pairs = sorted((one, other) for other, lot in zip(looked, waits) for one in lot)
            self.same(arrows_in(account), tuple(pairs))
        self.same(arrows_in(with_waits((2,), (0, 2), ())), ((0, 1), (2, 0), (2, 1)))
        self.same(arrows_in(NOTHING), ())
        for dot in (0, 1):
            for wrong in (False, True):
                self.refuses("dot", waits_at, HALF, wrong)
            self.same(waits_at(HALF, dot), ((), (0,))[dot])


class AccountOfTest(StrictCase):
    def test_each_part(self):
        for program in PROGRAMS:
            ins, outs, commands, turns = program
            account = account_of(program)
            self.assertTrue(is_account_plainly(account))
            web, angles, waits, flips, signs = account
            self.same(web[0], dots_of(program))
            self.same(web[2:], (ins, outs))
            ties = [command[1:] for command in commands if command[0] == "tie"]
            self.same(web[1], tuple(sorted(tie for tie in set(ties) if ties.count(tie) % 2)))
            by_dot = dict(zip(outs, [(8 - turn) % 8 for turn in turns]))
            by_dot.update({command[1]: command[2] for command in commands if command[0] == "look"})
            self.same(angles, tuple(by_dot[dot] for dot in web[0]))
            # What the lots tell must be so for all outcomes.
            names = dict(names_of(program))
            self.assertEqual(list(names), sorted(looks_of(program)))
            for outcomes in all_bits(len(looks_of(program))):
                new, odd_waits, flipped, signed = shown_account(program, outcomes)
                odd = lambda lot: sum(new[dot] for dot in lot) % 2
                old = dict(zip(looks_of(program), outcomes))
                self.assertEqual([odd(lot) for lot in waits], [odd_waits[dot] for dot in looked_of(web)])
                self.assertEqual(([odd(lot) for lot in flips], [odd(lot) for lot in signs]), (flipped, signed))
                self.assertEqual({dot: odd(lot) for dot, lot in names.items()}, old)
                self.same(new_outcomes(program, outcomes), tuple(new[dot] for dot in sorted(new)))

    def test_names(self):
        for program in PROGRAMS:
            looks = looks_of(program)
            for dot, lot in names_of(program):
                self.assertTrue(is_lot_plainly(lot))
                self.assertIn(dot, lot)
                self.assertLessEqual(set(lot), set(looks[:looks.index(dot) + 1]))
        self.same(names_of(((), (), (), ())), ())

    def test_some(self):
        self.same(account_of(STEP), (((0, 1), ((0, 1),), (0,), (1,)), (7, 0), ((),), ((0,),), ((),)))
        self.same(account_of(((), (), (), ())), NOTHING)
        self.same(account_of(((5, 2), (2, 5), (), (3, 0))), (((2, 5), (), (5, 2), (2, 5)), (5, 0), (), ((), ()), ((), ())))
        self.same(account_of(TWICE), (ROW, (1, 2, 0), ((), (0,)), ((0, 1),), ((),)))

    def test_a_tie_told_twice_and_flips(self):
        look = ("new", 9), ("look", 9, 1, (), ())
        def signs(*commands):
            account = account_of(((0, 1), (0, 1), look + commands, (0, 0)))
            return account[0][1], account[3], account[4]
        flip, tie = ("flip", 0, (9,)), ("tie", 0, 1)
        self.same(signs(flip, tie), (((0, 1),), ((9,), ()), ((), (9,))))
        self.same(signs(tie, flip), (((0, 1),), ((9,), ()), ((), ())))
        self.same(signs(flip, tie, tie), ((), ((9,), ()), ((), ())))
        self.same(signs(tie, flip, tie), ((), ((9,), ()), ((), (9,))))
        self.same(signs(tie, tie, tie, flip), (((0, 1),), ((9,), ()), ((), ())))
        self.same(signs(flip, ("flip", 1, (9,)), tie), (((0, 1),), ((9,), (9,)), ((9,), (9,))))
        self.same(signs(flip, ("sign", 1, (9,)), tie), (((0, 1),), ((9,), ()), ((), ())))
        self.same(signs(flip, flip, tie), (((0, 1),), ((), ()), ((), ())))

    def test_names_of_several_dots(self):
        commands = (
            ("new", 7), ("new", 3), ("look", 7, 1, (), ()), ("sign", 3, (7,)), ("look", 3, 2, (7,), ()), ("new", 5),
            ("sign", 5, (3,)), ("look", 5, 3, (3,), (7,)), ("flip", 0, (5,)), ("sign", 0, (3, 5)),
        )
        program = ((0,), (0,), commands, (1,))
        # 3 is told by 3 and 7; 5 by itself, the 7 of its adds, and its sign, told by 3 and 7.
        self.same(names_of(program), ((3, (3, 7)), (5, (3, 5)), (7, (7,))))
        self.same(account_of(program), (
            ((0, 3, 5, 7), (), (0,), (0,)), (7, 2, 3, 1), ((7,), (3, 7), ()), ((3, 5),), ((5, 7),),
        ))


class OutcomesTest(StrictCase):
    def test_there_and_back(self):
        for program in PROGRAMS:
            found = []
            for outcomes in all_bits(len(looks_of(program))):
                new = new_outcomes(program, outcomes)
                found.append(new)
                self.same(old_outcomes(program, new), outcomes)
                self.same(new_outcomes(program, old_outcomes(program, outcomes)), outcomes)
            self.assertEqual(sorted(found), all_bits(len(looks_of(program))))

    def test_sequences(self):
        commands = tuple(("look", dot, 0, (), ()) for dot in (8, 2, 5))
        program = ((2, 5, 8), (), commands, ())
        self.same(new_outcomes(program, (1, 0, 0)), (0, 0, 1))
        self.same(new_outcomes(program, (0, 1, 0)), (1, 0, 0))
        self.same(old_outcomes(program, (1, 0, 0)), (0, 1, 0))
        self.same(old_outcomes(program, (0, 1, 0)), (0, 0, 1))
        named = ((2, 5, 8), (), commands[:2] + (("look", 5, 0, (), (2, 8)),), ())
        self.same(new_outcomes(named, (1, 0, 0)), (0, 1, 1))
        self.same(old_outcomes(named, (1, 0, 0)), (0, 1, 1))

    def test_odd_outcomes(self):
        for program in PROGRAMS:
            many = len(looks_of(program))
            account = account_of(program)
            for wrong in (
                None, 0, "0" * (many + 1), [0] * many, (0,) * (many + 1), (0,) * many + (2,), (1,) * (many + 2),
            ) + ((((2,) * many), (True,) * many, (None,) * many, (0,) * (many - 1), (0,) * (many - 1) + (False,)) if many else ()):
                self.refuses("outcomes", new_outcomes, program, wrong)
                self.refuses("outcomes", old_outcomes, program, wrong)
                self.refuses("outcomes", account_branch, account, wrong)


class BranchTest(StrictCase):
    def test_branches_of_accounts(self):
        for account in ACCOUNTS:
            web, angles, waits, flips, signs = account
            looked = looked_of(web)
            # The look at each dot in another sequence that the waits let.
            rest, order = list(looked), []
            while rest:
                order.append([dot for dot in rest if all(other in order for other in waits[looked.index(dot)])][-1])
                rest.remove(order[-1])
            commands = [("new", dot) for dot in made_of(web)] + [("tie", *tie) for tie in web[1]]
            commands += [("look", dot, angles[web[0].index(dot)], waits[looked.index(dot)], ()) for dot in order]
            commands += [("flip", out, lot) for out, lot in zip(web[3], flips)]
            commands += [("sign", out, lot) for out, lot in zip(web[3], signs)]
            turns = tuple(-angles[web[0].index(out)] % 8 for out in web[3])
            program = (web[2], web[3], tuple(commands), turns)
            for outcomes in all_bits(len(looked)):
                by_dot = dict(zip(looked, outcomes))
                self.same(account_branch(account, outcomes), branch_of(program, tuple(by_dot[dot] for dot in order)))
            self.assertIs(account_right(account), is_right(program))

    def test_branches_of_programs(self):
        for program in PROGRAMS:
            account = account_of(program)
            for outcomes in all_bits(len(looks_of(program))):
                branch = branch_of(program, outcomes)
                other = account_branch(account, new_outcomes(program, outcomes))
                if is_nought(branch):
                    self.same(other, branch)
                else:
                    self.assertIsNotNone(alike(other, branch))

    def test_right(self):
        self.assertIs(account_right(account_of(STEP)), True)
        self.assertIs(account_right(HALF), True)
        self.assertIs(account_right((*HALF[:4], ((),))), False)
        self.assertIs(account_right((*HALF[:3], ((),), HALF[4])), False)
        self.assertIs(account_right(account_of(TWICE)), False)
        self.assertIs(account_right(NOTHING), True)
        chance = random.Random(47)
        for k in range(10):
            account = account_of(compiled(some_circuit(chance, 1 + k % 2, 3)))
            if len(account[2]) <= 5:
                self.assertIs(account_right(account), True)
        # The lone look shows 0 surely.
        self.assertIs(account_right(account_of(plain_program((((0,), (), (), ()), (0,))))), False)
        self.assertIs(account_right(account_of(plain_program((((0,), (), (), ()), (2,))))), True)


class StandardTest(StrictCase):
    def test_program_of(self):
        for account in ACCOUNTS:
            web, angles, waits, flips, signs = account
            ins, outs, commands, turns = program_of(account)
            self.assertTrue(is_program((ins, outs, commands, turns)))
            self.same((ins, outs), web[2:])
            by_dot = dict(zip(web[0], angles))
            self.same(turns, tuple((8 - by_dot[out]) % 8 for out in outs))
            wanted = [("new", dot) for dot in made_of(web)] + [("tie", *tie) for tie in web[1]]
            looked = looked_of(web)
            waits_by_dot = dict(zip(looked, waits))
            done = []
            while len(done) < len(looked):
                free = [dot for dot in looked if dot not in done and all(other in done for other in waits_by_dot[dot])]
                done.append(min(free))
                wanted.append(("look", done[-1], by_dot[done[-1]], waits_by_dot[done[-1]], ()))
            for out, flip, sign in zip(outs, flips, signs):
                wanted += [("flip", out, flip)] if flip else []
                wanted += [("sign", out, sign)] if sign else []
            self.same(commands, tuple(wanted))

    def test_the_least_that_is_free(self):
        def order(*waits):
            return tuple(command[1] for command in program_of(with_waits(*waits))[2] if command[0] == "look")
        self.same(order((), (), ()), (0, 1, 2))
        self.same(order((2,), (), ()), (1, 2, 0))
        self.same(order((1, 2), (2,), ()), (2, 1, 0))
        self.same(order((1,), (), (0,)), (1, 0, 2))
        self.same(order((), (2,), ()), (0, 2, 1))
        self.same(order((), (2,), (0,)), (0, 2, 1))

    def test_empty_lots_are_left_out(self):
        self.same(program_of(HALF)[2][-2:], (("flip", 2, (1,)), ("sign", 2, (0,))))
        self.same(program_of((*HALF[:3], ((),), HALF[4]))[2][-2:], (("look", 1, 2, (0,), ()), ("sign", 2, (0,))))
        self.same(program_of((*HALF[:4], ((),)))[2][-2:], (("look", 1, 2, (0,), ()), ("flip", 2, (1,))))
        self.same(program_of((*HALF[:3], ((),), ((),)))[2][-1], ("look", 1, 2, (0,), ()))
        self.same(program_of(NOTHING), ((), (), (), ()))

    def test_outs_in_their_sequence(self):
        web = ((0, 3, 5), (), (0,), (5, 3))
        account = (web, (1, 2, 3), ((),), ((0,), (0,)), ((0,), ()))
        self.same(program_of(account), (
            (0,), (5, 3),
            (("new", 3), ("new", 5), ("look", 0, 1, (), ()), ("flip", 5, (0,)), ("sign", 5, (0,)), ("flip", 3, (0,))),
            (5, 6),
        ))

    def test_there_and_back(self):
        chance = random.Random(52)
        for account in ACCOUNTS + [some_account(chance, 30, 5, 5)]:
            program = program_of(account)
            self.same(account_of(program), account)
            self.same(names_of(program), tuple((dot, (dot,)) for dot in looked_of(account[0])))
            self.same(standard_of(program), program)

    def test_standard_of(self):
        for program in PROGRAMS + [some_program(random.Random(9), 4, 10, 15, 80, 500)]:
            found = standard_of(program)
            self.same(found, program_of(account_of(program)))
            self.same(account_of(found), account_of(program))
            self.same(standard_of(found), found)


class ApartTest(StrictCase):
    def test_each_word(self):
        web = ((0, 1, 2, 3), ((0, 1), (1, 2)), (0,), (3, 2))
        account = (web, (1, 2, 3, 4), ((), (0,)), ((0,), (1,)), ((), (0, 1)))
        self.assertTrue(is_account(account))
        self.assertIsNone(apart_of(account, account))
        changes = (
            ("ins", (web[:2] + ((1,), web[3]), *account[1:])),
            ("outs", (web[:3] + ((2, 3),), *account[1:])),
            ("dots", (((0, 1, 2, 3, 4), *web[1:]), (1, 2, 3, 4, 5), ((), (0,), ()), *account[3:])),
            ("ties", ((web[0], ((0, 1),), *web[2:]), *account[1:])),
            (("angle", 0), (web, (2, 2, 3, 4), *account[2:])),
            (("angle", 2), (web, (1, 2, 4, 4), *account[2:])),
            (("angle", 3), (web, (1, 2, 3, 5), *account[2:])),
            (("waits", 0), (*account[:2], ((1,), ()), *account[3:])),
            (("waits", 1), (*account[:2], ((), ()), *account[3:])),
            (("flip", 3), (*account[:3], ((1,), (1,)), account[4])),
            (("flip", 2), (*account[:3], ((0,), ()), account[4])),
            (("sign", 3), (*account[:4], ((0,), (0, 1)))),
            (("sign", 2), (*account[:4], ((), (0,)))),
        )
        for wanted, other in changes:
            self.assertTrue(is_account(other), wanted)
            self.same(apart_of(account, other), wanted)
            self.same(apart_of(other, account), wanted)
        self.first_of_several(account, changes)

    def first_of_several(self, account, changes):
        """Of two differences together the first one counts."""
        for (wanted, one), (_, other) in itertools.combinations(changes, 2):
            both = tuple(a if a != base else b for base, a, b in zip(account, one, other))
            if one[0] != account[0] and other[0] != account[0]:
                web = tuple(a if a != base else b for base, a, b in zip(account[0], one[0], other[0]))
                both = (web, *both[1:])
            if is_account(both):
                self.same(apart_of(account, both), wanted, (account, both))

    def test_several(self):
        web = ((0, 1), ((0, 1),), (0,), (1,))
        one = (web, (0, 0), ((),), ((),), ((),))
        self.same(apart_of(one, (web, (0, 1), ((),), ((0,),), ((0,),))), ("angle", 1))
        self.same(apart_of(one, (web, (1, 1), ((),), ((0,),), ((0,),))), ("angle", 0))
        self.same(apart_of(one, (web, (0, 0), ((),), ((0,),), ((0,),))), ("flip", 1))
        self.same(apart_of(one, (web, (0, 0), ((),), ((),), ((0,),))), ("sign", 1))
        self.same(apart_of(one, HALF), "outs")
        self.same(apart_of(one, NOTHING), "ins")
        self.same(apart_of(NOTHING, one), "ins")
        outs = (((0, 1), (), (), (0, 1)), (0, 0), (), ((), ()), ((), ()))
        self.same(apart_of(outs, (((0, 1), (), (), (1, 0)), (0, 0), (), ((), ()), ((), ()))), "outs")
        self.same(apart_of(outs, (((0, 1, 2), ((0, 1),), (), (0, 1)), (0, 0, 0), ((),), ((), ()), ((), ()))), "dots")
        # The outs stand in their sequence, dots ascending.
        back = (((0, 1, 2), (), (), (2, 0)), (0, 0, 0), ((),), ((), ()), ((), ()))
        self.same(apart_of(back, (*back[:3], ((1,), (1,)), back[4])), ("flip", 2))
        self.same(apart_of(back, (*back[:4], ((1,), (1,)))), ("sign", 2))
        self.same(apart_of(back, (*back[:3], ((), (1,)), ((1,), ()))), ("flip", 0))

    def test_equal_and_random(self):
        for account in ACCOUNTS:
            self.assertIsNone(apart_of(account, account))
            for other in ACCOUNTS:
                self.assertEqual(apart_of(account, other) is None, account == other)

    def test_no_account(self):
        for wrong in ANY_VALUES + (
            list(HALF), HALF[:4], STEP, TWICE, ROW, plan_in(HALF), (*HALF[:2], ((1,), (0,)), *HALF[3:]), (*HALF[:4], [(0,)]),
        ):
            self.refuses("other", apart_of, HALF, wrong)

    def test_plain_programs(self):
        for plan in some_plans(30, 48):
            many, wide = len(looked_of(plan[0])), len(plan[0][3])
            self.same(account_of(plain_program(plan)), (*plan, ((),) * many, ((),) * wide, ((),) * wide))
