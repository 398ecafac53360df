"""[75], [76]: lies told about what the looks show."""

import itertools

from lookundone.accountbranches import account_branch
from lookundone.branches import branch_of
from lookundone.lies import lied, shown_for
from lookundone.likeness import alike
from lookundone.plansums import map_of
from lookundone.rightaccounts import right_account
from lookundone.scaling import scaled
from lookundone.shifting import shifted
from tests.common import ANY_VALUES, EMPTY, HALF, ROW, StrictCase
from tests.flow_oracles import parts_of
from tests.oracles import all_lots
from tests.program_oracles import all_bits
from tests.some_programs import some_accounts
from tests.test_rightaccounts import FLOWS, PLAN

NO_LOTS = tuple(thing for thing in ANY_VALUES if thing not in ((), (0, 1), (0,), (1,))) + (
    [], [0], [0, 1], (1, 0), (0, 0), (2,), (0, 2), (3,), (True,), (0, True), (False,), (-1,), (10000,), ("0",), ((0,),),
)


class LiesTest(StrictCase):
    def test_lied(self):
        for plan, _ in FLOWS:
            looked, _ = parts_of(plan[0])
            for lot in itertools.islice(all_lots(looked), 16):
                angles = tuple((angle + 4 * (dot in lot)) % 8 for dot, angle in zip(plan[0][0], plan[1]))
                self.same(lied(plan, lot), (plan[0], angles))
        self.same(lied((ROW, (4, 5, 7)), (0, 1)), (ROW, (0, 1, 7)))
        self.same(lied((EMPTY, ()), ()), (EMPTY, ()))

    def test_shown_for(self):
        for account in some_accounts(40, 751, 5):
            looked, _ = parts_of(account[0])
            for lot in itertools.islice(all_lots(looked), 8):
                for outcomes in all_bits(len(looked))[:8]:
                    wanted = tuple(bit ^ (dot in lot) for dot, bit in zip(looked, outcomes))
                    self.same(shown_for(account, outcomes, lot), wanted)
        self.same(shown_for(HALF, (0, 1), ()), (0, 1))
        self.same(shown_for(HALF, (0, 1), (0, 1)), (1, 0))
        self.same(shown_for((EMPTY, (), (), (), ()), (), ()), ())

    def test_wrong_parameters(self):
        for lot in NO_LOTS:
            self.refuses("lot", lied, PLAN, lot)
            self.refuses("lot", shown_for, HALF, (0, 0), lot)
        for outcomes in (None, 0, "", "00", (), (0,), (0, 0, 0), [0, 0], (0, 2), (-1, 0), (0, True), (False, 1), (0, "1")):
            self.refuses("outcomes", shown_for, HALF, outcomes, (0,))
            self.refuses("outcomes", shown_for, HALF, outcomes, None)

    def test_runs(self):
        # A run in which outcomes are told and others are shown ends as that of the plan lied about.
        done = 0
        for plan, flow in FLOWS:
            looked, _ = parts_of(plan[0])
            if len(looked) > 3:
                continue
            account = right_account(plan, flow)
            for lot in all_lots(looked):
                other = right_account(lied(plan, lot), flow)
                wanted = scaled(map_of(lied(plan, lot)), -len(looked))
                for outcomes in all_bits(len(looked)):
                    found = run_of(account, outcomes, shown_for(account, outcomes, lot))
                    self.same(found, account_branch(other, outcomes))
                    self.assertIsNotNone(alike(found, wanted))
                    done += 1
        self.assertGreater(done, 300)


def run_of(account, told, shown):
    """What comes of a run by the account in which other outcomes are told than shown."""
    web, angles, waits, flips, signs = account
    looked, made = parts_of(web)
    bits = dict(zip(looked, told))
    odd = lambda lot: sum(bits[dot] for dot in lot) % 2
    angle = dict(zip(web[0], angles))
    commands = [("new", dot) for dot in made] + [("tie", *tie) for tie in web[1]]
    for dot, wait in zip(looked, waits):
        commands.append(("look", dot, (-angle[dot] if odd(wait) else angle[dot]) % 8, (), ()))
    table = branch_of((web[2], web[3], tuple(commands), (0,) * len(web[3])), shown)
    turns = tuple(-angle[out] % 8 for out in web[3])
    return shifted(table, tuple(odd(lot) for lot in flips), tuple(odd(lot) for lot in signs), turns)
