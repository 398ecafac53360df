"""[10], [11], [74] to [76]: lazy runs, live dots, least peaks."""

import itertools
import random

from lookundone.accountbranches import account_branch
from lookundone.errors import InvalidPaper
from lookundone.lazyruns import lazy_events, lazy_run
from lookundone.leastpeaks import least_peak, lets_peak
from lookundone.likeness import alike
from lookundone.livecounts import live_at, peak_of
from lookundone.machines import Machine
from lookundone.plansums import map_of
from lookundone.quicks import quick_account
from lookundone.rightaccounts import right_account
from lookundone.scaling import scaled
from tests.common import ANY_VALUES, EMPTY, FAIR, LINE, PLUS, ROW, SEEN, TRI, StrictCase, wrong_places
from tests.flow_oracles import parts_of
from tests.oracles import all_lots
from tests.paper_oracles import is_lot_among, live_plainly
from tests.program_oracles import all_bits, is_whole
from tests.some_programs import some_account, some_accounts
from tests.some_webs import some_webs
from tests.test_rightaccounts import FLOW, FLOWS, LINE_FLOW, PLAN

STAR = ((0, 1, 2, 3, 4), ((0, 2), (1, 2), (2, 3), (2, 4)), (0, 1), (3, 4))
APART = ((1, 3, 5, 7, 9), ((3, 5),), (9,), (1, 7))
# An account with a family of ten lots.
MANY = (
    ((0, 9, 16, 19, 21, 23), ((0, 19), (16, 21), (21, 23)), (), (21,)), (1,) * 6, ((16, 19), (), (), (), ()), ((),), ((),),
)
WEBS = [ROW, TRI, PLUS, LINE, EMPTY, SEEN, FAIR, STAR, APART] + some_webs(60, 74, 6)


def some_orders(web, most):
    looked, _ = parts_of(web)
    return list(itertools.islice(itertools.permutations(looked), most))


def events_plainly(web, order):
    """The lazy events, told by the words of the document."""
    dots, ties, ins, outs = web
    events, there, laid = [], set(ins), set()
    for dot in order:
        for other in sorted({dot} | {end for tie in ties if dot in tie for end in tie}):
            if other not in there:
                there.add(other)
                events.append(("new", other))
        for tie in ties:
            if dot in tie and tie not in laid:
                laid.add(tie)
                events.append(("tie", *tie))
        events.append(("look", dot))
    events += [("new", out) for out in sorted(set(outs) - there)]
    events += [("tie", *tie) for tie in ties if tie not in laid]
    return tuple(events)


class LazyEventsTest(StrictCase):
    def test_webs(self):
        for web in WEBS:
            for order in some_orders(web, 12):
                found = lazy_events(web, order)
                self.same(found, events_plainly(web, order))
                # Each dot but the ins is made once, each tie laid once, each looked dot looked at once.
                self.assertEqual(sorted(event[1:] for event in found if event[0] == "tie"), list(web[1]))
                made = sorted(event[1] for event in found if event[0] == "new")
                self.assertEqual(made, [dot for dot in web[0] if dot not in web[2]])
                self.assertEqual(tuple(event[1] for event in found if event[0] == "look"), order)

    def test_some(self):
        self.same(lazy_events(EMPTY, ()), ())
        self.same(
            lazy_events(ROW, (1, 0)),
            (("new", 1), ("new", 2), ("tie", 0, 1), ("tie", 1, 2), ("look", 1), ("look", 0)),
        )
        # Dots tied to nothing, one of them in and out, and a tie of two outs.
        self.same(lazy_events(((2, 5), (), (2,), (2,)), (5,)), (("new", 5), ("look", 5)))
        self.same(
            lazy_events(((2, 5, 7), ((2, 5),), (), (5, 2)), (7,)),
            (("new", 7), ("look", 7), ("new", 2), ("new", 5), ("tie", 2, 5)),
        )
        self.same(lazy_events(((2, 5), ((2, 5),), (5,), (5, 2)), ()), (("new", 2), ("tie", 2, 5)))

    def test_how_many_are_there_ahead_of_each_look(self):
        for web in WEBS:
            for order in some_orders(web, 12):
                there = len(web[2])
                counts = []
                for event in lazy_events(web, order):
                    there += event[0] == "new"
                    if event[0] == "look":
                        counts.append(there)
                        there -= 1
                self.same(live_at(web, order), tuple(counts))

    def test_no_orders(self):
        for order in ANY_VALUES + ((0,), (1,), (0, 0), (0, 1, 1), (0, 2), (0, 1, 2), [0, 1], (False, 1), (0, True), (0, 9)):
            if repr(order) != "(0, 1)":
                self.refuses("order", lazy_events, ROW, order)
                self.refuses("order", live_at, ROW, order)
                self.refuses("order", peak_of, ROW, order)


class LazyRunTest(StrictCase):
    def test_against_branches(self):
        done = 0
        for plan, flow in FLOWS:
            web = plan[0]
            looked, _ = parts_of(web)
            if len(looked) > 4:
                continue
            for fast in (False, True):
                account = quick_account(plan, flow) if fast else right_account(plan, flow)
                waits = dict(zip(looked, account[2]))
                for order in some_orders(web, 6):
                    keeps = all(set(waits[dot]) <= set(order[:k]) for k, dot in enumerate(order))
                    for outcomes in all_bits(len(looked)):
                        if not keeps:
                            self.refuses("order", lazy_run, plan, flow, fast, order, outcomes)
                            continue
                        by_dot = dict(zip(order, outcomes))
                        wanted = account_branch(account, tuple(by_dot[dot] for dot in looked))
                        found = lazy_run(plan, flow, fast, order, outcomes)
                        self.same(found, wanted, (plan, flow, fast, order, outcomes))
                        self.assertIsNotNone(alike(found, scaled(map_of(plan), -len(looked))))
                        done += 1
        self.assertGreater(done, 400)

    def test_some(self):
        self.same(lazy_run((EMPTY, ()), (), False, (), ()), (0, 0, 0, (((1, 0, 0, 0),),)))
        # Outs are turned at the end, by minus their angles.
        plan = (((3,), (), (3,), (3,)), (2,))
        self.same(
            lazy_run(plan, (), True, (), ()), (1, 1, 0, (((1, 0, 0, 0), (0, 0, 0, 0)), ((0, 0, 0, 0), (0, 0, -1, 0)))),
        )
        self.same(lazy_run(order=(0, 1), fast=True, outcomes=(1, 0), flow=FLOW, plan=PLAN), lazy_run(PLAN, FLOW, True, (0, 1), (1, 0)))
        # Only the fast run lets 1 come ahead of 0.
        self.refuses("order", lazy_run, PLAN, FLOW, False, (1, 0), (0, 0))
        self.same(
            lazy_run(PLAN, FLOW, True, (1, 0), (1, 0)), account_branch(quick_account(PLAN, FLOW), (0, 1)),
        )

    def test_wrong_parameters(self):
        for flow in (None, (), [], list(FLOW), FLOW[:1], ((0, (1,)), (1, (0,))), ((0, (1,)), (True, (2,)))):
            self.refuses("flow", lazy_run, PLAN, flow, False, (0, 1), (0, 0))
            self.refuses("flow", lazy_run, PLAN, flow, None, None, None)
        for fast in (None, 0, 1, "", "True", (), [], (True,)):
            self.refuses("fast", lazy_run, PLAN, FLOW, fast, (0, 1), (0, 0))
            self.refuses("fast", lazy_run, PLAN, FLOW, fast, None, None)
        for order in (None, (), [], [0, 1], (0,), (0, 1, 2), (1, 1), (False, 1), (0, True), (0, 2)):
            self.refuses("order", lazy_run, PLAN, FLOW, True, order, (0, 0))
            self.refuses("order", lazy_run, PLAN, FLOW, True, order, None)
        for outcomes in (None, (), [], [0, 0], (0,), (0, 0, 0), (0, 2), (0, True), (False, 0), (-1, 0), ("0", 0), 0):
            self.refuses("outcomes", lazy_run, PLAN, FLOW, True, (0, 1), outcomes)


class LiveTest(StrictCase):
    def test_webs(self):
        for web in WEBS:
            for order in some_orders(web, 24):
                counts = [len(live_plainly(web, order, place)) for place in range(len(order))]
                self.same(live_at(web, order), tuple(counts))
                self.same(peak_of(web, order), max(counts + [len(web[2]), len(web[3])]))

    def test_some(self):
        self.same((live_at(EMPTY, ()), peak_of(EMPTY, ())), ((), 0))
        # The number of ins, and that of outs, as the peak.
        self.same(peak_of(((1, 2, 3), (), (3, 1, 2), ()), (1, 2, 3)), 3)
        self.same(live_at(((1, 2, 3), (), (), (1, 2)), (3,)), (1,))
        self.same(peak_of(((1, 2, 3), (), (), (1, 2)), (3,)), 2)
        self.same(peak_of(((1, 2), (), (2, 1), (2, 1)), ()), 2)
        self.same(live_at(STAR, (0, 1, 2)), (3, 2, 3))
        self.same(peak_of(STAR, (2, 0, 1)), 5)


def account_orders(account):
    """All orders that keep the account's waits."""
    looked, _ = parts_of(account[0])
    waits = dict(zip(looked, account[2]))
    for order in itertools.permutations(looked):
        if all(set(waits[dot]) <= set(order[:k]) for k, dot in enumerate(order)):
            yield order


def peak_plainly(web, order):
    counts = [len(live_plainly(web, order, place)) for place in range(len(order))]
    return max(counts + [len(web[2]), len(web[3])])


def peak_fault_plainly(account, thing):
    """Why thing is no peak of the account, as (word, at), None if it is one."""
    web, _, all_waits, _, _ = account
    looked, _ = parts_of(web)
    waits = dict(zip(looked, all_waits))
    if type(thing) is not tuple or len(thing) != 3 or type(thing[2]) is not tuple or not thing[2]:
        return "shape", -1
    peak, order, reason = thing
    if type(reason[0]) is not str or (reason[0], len(reason)) not in (("ends", 1), ("family", 2)):
        return "shape", -1
    if type(order) is not tuple or not all(is_whole(dot) for dot in order) or order not in account_orders(account):
        return "order", -1
    if not is_whole(peak) or peak != peak_plainly(web, order):
        return "peak", -1
    if reason == ("ends",):
        return None if peak in (len(web[2]), len(web[3])) else ("ends", -1)
    lots = reason[1]
    if type(lots) is not tuple or not all(is_lot_among(looked, lot) for lot in lots):
        return "family", -1
    if list(lots) != sorted(set(lots)) or () not in lots or tuple(looked) in lots:
        return "family", -1
    for k, lot in enumerate(lots):
        for dot in looked:
            if dot not in lot and set(waits[dot]) <= set(lot) and tuple(sorted(lot + (dot,))) not in lots:
                if len(live_plainly(web, lot + (dot,), len(lot))) < peak:
                    return "lot", k
    return None


class PeakTest(StrictCase):
    def checks(self, account, thing):
        fault = peak_fault_plainly(account, thing)
        if fault is None:
            self.same(lets_peak(account, thing), thing[0])
        else:
            self.raises(InvalidPaper, {"word": fault[0], "at": fault[1]}, lets_peak, account, thing)
        return fault

    def faulty(self, word, at, account, thing):
        self.assertEqual(self.checks(account, thing), (word, at), thing)

    def accounts(self):
        found = [right_account(plan, flow) for plan, flow in FLOWS[:40]]
        found += [quick_account(plan, flow) for plan, flow in FLOWS[:20]]
        return found + some_accounts(60, 75, 6)

    def test_against_all_orders(self):
        met = {"ends": 0, "family": 0}
        for account in self.accounts():
            found = least_peak(account)
            self.same(least_peak(account), found)
            self.assertIsNone(self.checks(account, found))
            peak, order, reason = found
            self.assertEqual(peak, min(peak_plainly(account[0], order) for order in account_orders(account)))
            self.assertIn(order, list(account_orders(account)))
            ends = (len(account[0][2]), len(account[0][3]))
            self.assertEqual(reason == ("ends",), peak in ends)
            met[reason[0]] += 1
            if peak not in ends:
                self.faulty("ends", -1, account, (peak, order, ("ends",)))
        self.assertGreater(min(met.values()), 20)

    def test_what_is_let_is_least(self):
        # Each order with its peak, and each family of small accounts: none that is let is above the least.
        done = 0
        for account in some_accounts(40, 76, 4):
            looked, _ = parts_of(account[0])
            if len(looked) > 2:
                continue
            least = least_peak(account)[0]
            lots = list(all_lots(looked))
            for order in account_orders(account):
                peak = peak_plainly(account[0], order)
                for many in range(len(lots) + 1):
                    for family in itertools.combinations(sorted(lots), many):
                        if self.checks(account, (peak, order, ("family", family))) is None:
                            self.assertEqual(peak, least)
                            done += 1
                if self.checks(account, (peak, order, ("ends",))) is None:
                    self.assertEqual(peak, least)
        self.assertGreater(done, 20)

    def test_some(self):
        self.same(least_peak((EMPTY, (), (), (), ())), (0, (), ("ends",)))
        self.same(least_peak((((3,), (), (3,), (3,)), (0,), (), ((),), ((),))), (1, (), ("ends",)))
        account = right_account((LINE, (0, 0, 0, 0)), LINE_FLOW)
        self.same(least_peak(account), (2, (0, 1, 2), ("family", ((),))))
        # Several ins, whose number is the peak.
        ins = ((1, 2, 3), (), (3, 1, 2), ())
        self.same(least_peak((ins, (0, 0, 0), ((2,), (3,), ()), (), ())), (3, (3, 2, 1), ("ends",)))

    def test_a_family_where_ends_would_do(self):
        ins = (((1, 2), (), (2, 1), ()), (0, 0), ((), ()), (), ())
        self.assertIsNone(self.checks(ins, (2, (1, 2), ("ends",))))
        self.assertIsNone(self.checks(ins, (2, (1, 2), ("family", ((),)))))
        self.assertIsNone(self.checks(ins, (2, (2, 1), ("family", ((),)))))
        # With () alone the looks may begin with fewer dots than the outs are.
        outs = (((1, 2, 3), (), (), (1, 2)), (0, 0, 0), ((),), ((), ()), ((), ()))
        self.assertIsNone(self.checks(outs, (2, (3,), ("ends",))))
        self.faulty("lot", 0, outs, (2, (3,), ("family", ((),))))
        self.faulty("family", -1, (EMPTY, (), (), (), ()), (0, (), ("family", ((),))))

    def test_shape(self):
        account = right_account(PLAN, FLOW)
        good = (2, (0, 1), ("family", ((),)))
        self.assertIsNone(self.checks(account, good))
        for thing in ANY_VALUES + (
            list(good), good[:2], good + ((),), (*good[:2], ["family", ((),)]), (*good[:2], ("family",)), (*good[:2], "ends"),
            (*good[:2], ("family", ((),), ())), (*good[:2], ("ends", ())), (*good[:2], ["ends"]), (*good[:2], ("end",)),
            (*good[:2], ("ends", "family")), (*good[:2], (("family",), ((),))), (*good[:2], (None, ((),))), (*good[:2], ()),
            (*good[:2], None), (*good[:2], ("Family", ((),))), (None, None, None), "abc",
        ):
            self.faulty("shape", -1, account, thing)

    def test_orders_and_peaks(self):
        account = right_account(PLAN, FLOW)
        for order in (None, 0, "", (), [0, 1], (0,), (1, 0), (0, 0), (0, 2), (0, 1, 2), (False, 1), (0, True), ("0", "1")):
            for reason in (("ends",), ("family", None)):
                self.faulty("order", -1, account, (2, order, reason))
                self.faulty("order", -1, account, (None, order, reason))
        for peak in (None, True, 0, 1, 3, -2, "2", (), (2,), [2], 10 ** 30):
            for reason in (("ends",), ("family", None)):
                self.faulty("peak", -1, account, (peak, (0, 1), reason))
        lone = (((1,), (), (), ()), (0,), ((),), (), ())
        self.faulty("peak", -1, lone, (True, (1,), ("family", ((),))))
        self.assertIsNone(self.checks(lone, (1, (1,), ("family", ((),)))))

    def test_families(self):
        account = MANY
        least = least_peak(account)
        self.assertEqual(least[2][0], "family")
        family = least[2][1]
        self.assertGreater(len(family), 2)
        looked, _ = parts_of(account[0])
        head = least[:2]
        for lots in (
            None, 0, "", [], list(family), (), family[1:], family[::-1], family + (family[-1],), ((),) + family,
            family + (tuple(looked),), tuple(sorted(family + (tuple(looked),))), ([],), ((), [looked[0]]), ((), (9999,)),
            ((), (True,)), ((), account[0][3]), ((), None), "ab", ((), (looked[1], looked[0])), ((), (looked[0], looked[0])),
        ):
            self.faulty("family", -1, account, (*head, ("family", lots)))
        lacking = 0
        for k in range(1, len(family)):
            fault = self.checks(account, (*head, ("family", family[:k] + family[k + 1:])))
            lacking += fault is not None and fault[0] == "lot"
        self.assertGreater(lacking, 0)
        # A lot too many does no harm if what is asked of it holds.
        let = set()
        for lot in all_lots(looked):
            if lot not in family:
                let.add(self.checks(account, (*head, ("family", tuple(sorted(family + (lot,)))))) is None)
        self.assertIn(False, let)

    def test_wrong_places(self):
        for account in (right_account(PLAN, FLOW), MANY):
            values = (None, True, False, 0, 1, 2, 3, "", (), (0,), [], ("ends",), ("family", ((),)), "family", "ends")
            for wrong in wrong_places(least_peak(account), values):
                self.checks(account, wrong)

    def test_eight_looked_dots(self):
        chance = random.Random(78)
        for _ in range(3):
            account = some_account(chance, 9, 2, 1)
            peak, order, reason = least_peak(account)
            self.same(lets_peak(account, (peak, order, reason)), peak)
            self.assertEqual(peak, peak_plainly(account[0], order))


class MachineRunTest(StrictCase):
    def test_ends_as_the_machine_tells(self):
        # A lazy run of looks that all show 0 leaves nothing to undo.
        for plan, flow in FLOWS[:30]:
            looked, _ = parts_of(plan[0])
            machine = Machine(plan, flow, False)
            while machine.left():
                machine.tell(machine.ready()[0], 0)
            self.assertEqual(set(machine.ended()[0] + machine.ended()[1]) | {0}, {0})
