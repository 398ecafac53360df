"""[9], [11], [69] to [72], [76]: accounts by flows, quick ones, their rounds, and the flow in an account."""

import itertools
import random

from lookundone.accountbranches import account_branch, account_right
from lookundone.accountkinds import is_account
from lookundone.accounts import account_of
from lookundone.likeness import alike
from lookundone.lookrounds import many_rounds, rounds_by
from lookundone.newoutcomes import new_outcomes
from lookundone.plankinds import odd_angles
from lookundone.plansums import map_of
from lookundone.quicks import quick_account, quick_program
from lookundone.rightaccounts import flow_in, right_account, right_program, wrong_lot
from lookundone.rightness import is_right
from lookundone.scaling import scaled
from lookundone.settling import flow_of, settle
from lookundone.standards import program_of
from lookundone.webkinds import looked_of
from tests.common import EMPTY, HALF, LINE, PLUS, ROW, TRI, StrictCase
from tests.flow_oracles import all_flows, odd_plainly, parts_of, rounds_plainly
from tests.paper_oracles import account_plainly
from tests.program_oracles import all_bits
from tests.some_programs import some_accounts
from tests.some_webs import some_web, wide_web
from tests.test_flows import wide_flow
from tests.test_orders import UNEVEN

PLAN = (ROW, (1, 2, 0))
FLOW = ((0, (1,)), (1, (2,)))
LINE_FLOW = ((0, (1, 3)), (1, (2,)), (2, (3,)))


def some_flows(count, seed, most=6, greatest=30):
    """Plans with flows of their webs, several for uneven webs."""
    chance = random.Random(seed)
    found = []
    while len(found) < count:
        ins = chance.randint(0, 2)
        web = some_web(chance, chance.randint(max(ins, 1), most), greatest, ins, None, 0.45)
        flows = list(itertools.islice(all_flows(web), 5))
        if flows and (len(web[3]) < len(web[0]) or chance.random() < 0.2):
            flow = chance.choice(flows)
            found.append(((web, tuple(chance.randint(0, 7) for _ in web[0])), flow))
    return found


FLOWS = [(PLAN, FLOW), ((LINE, (1, 3, 5, 7)), LINE_FLOW), ((EMPTY, ()), ())] + some_flows(80, 69)


def wrong_lot_plainly(account):
    """The first word that applies to a looked dot, told by the words of the document."""
    web, _, waits, flips, signs = account
    looked, _ = parts_of(web)
    for dot in looked:
        lot = {other for other, wait in zip(looked, waits) if dot in wait}
        lot |= {out for out, flip in zip(web[3], flips) if dot in flip}
        odd = odd_plainly(web, lot)
        if lot & set(web[2]):
            return "made", dot
        if odd & set(looked) != {dot}:
            return "odd", dot
        if {out for out, sign in zip(web[3], signs) if dot in sign} != odd & set(web[3]):
            return "sign", dot
    return None


class RightAccountTest(StrictCase):
    def test_against_the_definition(self):
        for plan, flow in FLOWS:
            found = right_account(plan, flow)
            self.same(found, account_plainly(plan, flow))
            self.assertTrue(is_account(found))
            self.same(right_program(plan, flow), program_of(found))
            self.same(account_of(right_program(plan, flow)), found)

    def test_lots_of_several_dots(self):
        self.same(
            right_account((LINE, (1, 3, 5, 7)), LINE_FLOW),
            (LINE, (1, 3, 5, 7), ((), (0,), (1,)), ((0, 2),), ((1,),)),
        )
        # 2 lies twice in lots' odd lots, and both outs are flipped by 1.
        self.same(
            right_account((UNEVEN, (0, 0, 0, 0)), ((0, (3,)), (1, (2, 3))))[2:], (((), ()), ((1,), (0, 1)), ((), ())),
        )
        self.assertGreater(sum(len(lot) > 1 for _, flow in FLOWS for _, lot in flow), 20)

    def test_some(self):
        self.same(right_account((EMPTY, ()), ()), (EMPTY, (), (), (), ()))
        self.same(
            right_program(PLAN, FLOW),
            (
                (0,), (2,),
                (
                    ("new", 1), ("new", 2), ("tie", 0, 1), ("tie", 1, 2), ("look", 0, 1, (), ()),
                    ("look", 1, 2, (0,), ()), ("flip", 2, (1,)), ("sign", 2, (0,)),
                ),
                (0,),
            ),
        )

    def test_flows_of_other_webs(self):
        for plan, flow in FLOWS[:40]:
            for other_plan, _ in FLOWS[:40]:
                is_one = flow in list(all_flows(other_plan[0]))
                for call in (right_account, right_program, quick_account, quick_program):
                    if is_one:
                        call(other_plan, flow)
                    else:
                        self.refuses("flow", call, other_plan, flow)

    def test_branches(self):
        # G5, G9: right, each branch the map times a unit, over r to the number of looks.
        for plan, flow in FLOWS:
            looked = looked_of(plan[0])
            if len(looked) <= 4:
                wanted = scaled(map_of(plan), -len(looked))
                for account in (right_account(plan, flow), quick_account(plan, flow)):
                    for outcomes in all_bits(len(looked)):
                        self.assertIsNotNone(alike(account_branch(account, outcomes), wanted), (plan, flow))

    def test_wide(self):
        for seed in range(2):
            web = wide_flow(seed + 70, 10, 32)[0]
            plan, flow = (web, tuple(k % 8 for k in range(len(web[0])))), flow_of(web)
            account = right_account(plan, flow)
            self.same(account, account_plainly(plan, flow))
            self.same(flow_in(account), flow)


class WrongLotTest(StrictCase):
    def checks(self, account):
        wanted = wrong_lot_plainly(account)
        self.same(wrong_lot(account), wanted, account)
        if wanted is not None:
            self.assertIsNone(flow_in(account))
        return wanted

    def test_accounts_by_flows(self):
        for plan, flow in FLOWS:
            account = right_account(plan, flow)
            self.assertIsNone(self.checks(account))
            self.same(flow_in(account), flow)

    def test_one_lot_changed(self):
        met = {}
        for plan, flow in FLOWS:
            account = right_account(plan, flow)
            looked = looked_of(plan[0])
            for place in (2, 3, 4):
                for k, lot in enumerate(account[place]):
                    for dot in looked:
                        new = tuple(sorted(set(lot) ^ {dot}))
                        rows = account[place][:k] + (new,) + account[place][k + 1:]
                        other = account[:place] + (rows,) + account[place + 1:]
                        if is_account(other):
                            wrong = self.checks(other)
                            if wrong is None:
                                # Then it is by another flow, or by none.
                                self.assertIn(flow_in(other), list(all_flows(plan[0])))
                            met[wrong and wrong[0]] = met.get(wrong and wrong[0], 0) + 1
        self.assertTrue({"made", "odd", "sign"} <= set(met), met)

    def test_any_accounts(self):
        met = {}
        for account in some_accounts(300, 70, 5):
            wrong = self.checks(account)
            met[wrong and wrong[0]] = True
            looked = looked_of(account[0])
            if len(looked) <= 3 and len(account[0][0]) <= 5:
                # G5: right at all angles exactly if it is by some flow; angles that tell are among these.
                by_flow = any(account == account_plainly(account[:2], flow) for flow in all_flows(account[0]))
                self.assertEqual(wrong is None, by_flow)
                if by_flow:
                    self.assertTrue(account_right(account))
        self.assertTrue({"made", "odd", "sign", None} <= set(met), met)

    def test_accounts_that_are_right_at_all_angles(self):
        # Each account of a small web, at several angles, against whether its programs are right.
        chance = random.Random(700)
        met = {True: 0, False: 0}
        for web in (PLUS, ROW, ((0, 1), ((0, 1),), (0,), (1,)), ((0, 1, 2), ((0, 1), (0, 2)), (), (1, 2)), TRI):
            looked, _ = parts_of(web)
            lots = [tuple(dot for k, dot in enumerate(looked) if bits >> k & 1) for bits in range(2 ** len(looked))]
            for rows in itertools.product(lots, repeat=len(looked) + 2 * len(web[3])):
                many = len(looked)
                parts = rows[:many], rows[many:many + len(web[3])], rows[many + len(web[3]):]
                if not is_account((web, (0,) * len(web[0]), *parts)):
                    continue
                all_right = all(
                    account_right((web, tuple(chance.randint(0, 7) for _ in web[0]), *parts)) for _ in range(8)
                )
                self.assertEqual(wrong_lot((web, (1,) * len(web[0]), *parts)) is None, all_right, (web, parts))
                met[all_right] += 1
        # As many as flows: the dot 0 tied to both outs can be led by either.
        self.assertEqual(met[True], 5)

    def test_words(self):
        web = ((0, 1, 2, 3), ((0, 1), (1, 2), (2, 3)), (0,), (3,))
        good = right_account((web, (0, 0, 0, 0)), LINE_FLOW)
        self.assertIsNone(wrong_lot(good))
        self.same(wrong_lot(HALF), None)
        # An in waits for 1: 1's lot has an in, and is not odd at 1 alone.
        self.same(wrong_lot((web, (0, 0, 0, 0), ((1,), (), (1,)), ((0, 2),), ((1,),))), ("odd", 0))
        self.same(wrong_lot((web, (0, 0, 0, 0), ((1,), (), ()), ((0, 2),), ((1,),))), ("odd", 0))
        self.same(wrong_lot((ROW, (0, 0, 0), ((1,), ()), ((1,),), ((0,),))), ("odd", 0))
        self.same(wrong_lot((((0, 1), ((0, 1),), (0,), (0,)), (0, 0), ((),), ((1,),), ((),))), ("made", 1))
        self.same(wrong_lot((ROW, (0, 0, 0), ((), (0,)), ((1,),), ((),))), ("sign", 0))
        self.same(wrong_lot((ROW, (0, 0, 0), ((), (0,)), ((),), ((),))), ("sign", 0))
        self.same(wrong_lot((ROW, (0, 0, 0), ((), (0,)), ((),), ((0,),))), ("odd", 1))
        self.same(wrong_lot((ROW, (0, 0, 0), ((), ()), ((0, 1),), ((0,),))), ("odd", 0))
        self.assertIsNone(wrong_lot((EMPTY, (), (), (), ())))
        self.same(flow_in((EMPTY, (), (), (), ())), ())

    def test_mixed_flows(self):
        # An uneven web with two flows; the lots of each in one account make a flow or none.
        flows = list(all_flows(UNEVEN))
        self.assertGreater(len(flows), 1)
        for lots in itertools.product(*[sorted({dict(flow)[dot] for flow in flows}) for dot in (0, 1)]):
            mixed = tuple(zip((0, 1), lots))
            account = account_plainly((UNEVEN, (1, 2, 3, 4)), mixed)
            if is_account(account):
                self.same(flow_in(account), mixed if mixed in flows else None)
                self.checks(account)


class QuickTest(StrictCase):
    def quick_plainly(self, plan, flow):
        """The program by the flow with its looks changed, told by the document's words."""
        ins, outs, commands, turns = program_of(account_plainly(plan, flow))
        changed = []
        for command in commands:
            if command[0] == "look":
                word, dot, turn, waits, adds = command
                if turn == 0 or turn == 4:
                    waits = ()
                elif turn == 2 or turn == 6:
                    waits, adds = (), waits
                command = (word, dot, turn, waits, adds)
            changed.append(command)
        return ins, outs, tuple(changed), turns

    def test_against_the_words(self):
        for plan, flow in FLOWS:
            program = self.quick_plainly(plan, flow)
            account = quick_account(plan, flow)
            self.same(account, account_of(program))
            self.same(quick_program(plan, flow), program_of(account))
            self.assertEqual(account[:2], plan)
            odd = [dot for dot in odd_angles(plan) if dot not in plan[0][3]]
            self.assertLessEqual(many_rounds(account), len(odd) + 1)

    def test_turns(self):
        for turn, waits, flips, signs in (
            (0, ((), ()), ((1,),), ((0,),)), (4, ((), ()), ((1,),), ((0,),)),
            (2, ((), ()), ((0, 1),), ((0,),)), (6, ((), ()), ((0, 1),), ((0,),)),
            (1, ((), (0,)), ((1,),), ((0,),)), (3, ((), (0,)), ((1,),), ((0,),)),
            (5, ((), (0,)), ((1,),), ((0,),)), (7, ((), (0,)), ((1,),), ((0,),)),
        ):
            self.same(quick_account((ROW, (1, turn, 3)), FLOW), (ROW, (1, turn, 3), waits, flips, signs))
            # The angle of the first look does not matter, for it waits for nothing.
            self.same(quick_account((ROW, (2, turn, 3)), FLOW), (ROW, (2, turn, 3), waits, flips, signs))
        self.same(
            quick_account((LINE, (1, 2, 3, 0)), LINE_FLOW), (LINE, (1, 2, 3, 0), ((), (), (0, 1)), ((0, 2),), ((0, 1),)),
        )
        self.same(many_rounds(quick_account((LINE, (1, 2, 2, 0)), LINE_FLOW)), 1)

    def test_it_is_right(self):
        for plan, flow in FLOWS[:50]:
            if len(looked_of(plan[0])) <= 4:
                self.assertTrue(is_right(quick_program(plan, flow)))
                self.assertTrue(is_right(self.quick_plainly(plan, flow)))

    def test_outcomes_of_the_program_it_comes_of(self):
        program = self.quick_plainly((ROW, (1, 2, 0)), FLOW)
        self.same(new_outcomes(program, (1, 0)), (1, 1))

    def test_wide_webs_with_angles_of_no_odd_turns(self):
        for seed in range(2):
            web = wide_flow(seed + 80, 10, 30)[0]
            plan = (web, tuple(2 * (k % 4) for k in range(30)))
            self.assertLessEqual(many_rounds(quick_account(plan, flow_of(web))), 1)


class RoundsTest(StrictCase):
    def test_flows(self):
        for plan, flow in FLOWS:
            rounds = rounds_plainly(plan[0], dict(flow))
            account = right_account(plan, flow)
            self.same(rounds_by(account), tuple(sorted(rounds.items())))
            self.same(many_rounds(account), max(rounds.values(), default=0))

    def test_any_accounts(self):
        for account in some_accounts(120, 72, 6):
            looked = looked_of(account[0])
            waits = dict(zip(looked, account[2]))
            rounds = {}
            while len(rounds) < len(looked):
                for dot in looked:
                    if dot not in rounds and all(other in rounds for other in waits[dot]):
                        rounds[dot] = max([rounds[other] for other in waits[dot]] + [0]) + 1
            self.same(rounds_by(account), tuple(sorted(rounds.items())))
            self.same(many_rounds(account), max(rounds.values(), default=0))

    def test_some(self):
        self.same(rounds_by((EMPTY, (), (), (), ())), ())
        self.same(many_rounds((EMPTY, (), (), (), ())), 0)
        self.same(rounds_by((((3,), (), (), (3,)), (0,), (), ((),), ((),))), ())
        dots = tuple(range(16))
        row = (dots, (), (), ())
        waits = tuple((dot + 1,) if dot < 15 else () for dot in dots)
        self.same(rounds_by((row, (0,) * 16, waits, (), ())), tuple((dot, 16 - dot) for dot in dots))
        self.same(many_rounds((row, (0,) * 16, ((),) * 16, (), ())), 1)

    def test_wide(self):
        web = wide_flow(90, 10, 32)[0]
        account = right_account((web, (1,) * 32), flow_of(web))
        self.same(rounds_by(account), tuple(sorted(rounds_plainly(web, dict(flow_of(web))).items())))
        self.assertNotEqual(settle(wide_web(1))[0], "flow")
