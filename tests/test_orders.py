"""[9], [10], [11], [66] to [68]: fewest rounds, floors, widened webs, chains, orders that are let."""

import itertools
import random

from lookundone.chains import chain_of
from lookundone.errors import InvalidPaper, NoFlow, NotEven
from lookundone.floors import floors_of, lets_floors
from lookundone.flowkinds import arrows_of, lets_flow
from lookundone.focusing import focused
from lookundone.layers import fewest_flow, fewest_rounds, layers_of
from lookundone.linear import keeps_arrows
from lookundone.orders import allowed, is_let, lets_allowed
from lookundone.settling import flow_of, settle
from lookundone.telling import kind_of
from lookundone.webchanges import put_in
from lookundone.webkinds import is_even
from lookundone.widening import widened
from tests.common import ANY_VALUES, EMPTY, FAIR, LINE, PLUS, ROW, SEEN, TRI, StrictCase, wrong_places
from tests.flow_oracles import all_flows, flow_fault_plainly, odd_plainly, parts_of, rounds_plainly
from tests.oracles import all_lots
from tests.paper_oracles import allowed_fault_plainly, floors_fault_plainly
from tests.some_webs import some_web, some_webs, wide_web
from tests.test_flows import followers, wide_flow

# More outs than ins; by one flow one round will do, by another one it takes two.
UNEVEN = ((0, 1, 2, 3), ((0, 2), (0, 3), (1, 2)), (), (2, 3))
CHANCE = random.Random(661)
# Many with flows: few ties, and few more outs than ins.
SPARSE = [some_web(CHANCE, 3 + k % 4, 9, k % 2, 1 + k % 3, 0.45) for k in range(160)]
EVEN = [some_web(CHANCE, 3 + k % 5, 9, 1 + k % 3, 1 + k % 3, 0.45) for k in range(150)]
WEBS = [ROW, TRI, PLUS, LINE, EMPTY, SEEN, FAIR, UNEVEN] + SPARSE + some_webs(60, 66, 6)
VALUES = (None, True, False, 0, 1, 2, 3, -1, "", (), [], (0,), (1,), (0, 1), [0, 1], (1, 0))


def small_flows(web):
    return list(all_flows(web))


class RoundsTest(StrictCase):
    def test_against_all_flows(self):
        met = {}
        for web in WEBS:
            flows = small_flows(web)
            if not flows:
                paper = settle(web)
                for call in (fewest_rounds, fewest_flow, floors_of, widened):
                    self.raises(NoFlow, {"paper": paper}, call, web)
                self.assertNotEqual(layers_of(web)[-1], web[0])
                continue
            least = min(max(rounds_plainly(web, dict(flow)).values(), default=0) for flow in flows)
            most = max(max(rounds_plainly(web, dict(flow)).values(), default=0) for flow in flows)
            self.same(fewest_rounds(web), least)
            found = fewest_flow(web)
            self.assertIn(found, flows)
            self.same(lets_flow(web, found), least)
            self.assertEqual(len(layers_of(web)), least + 1)
            self.assertEqual(layers_of(web)[-1], web[0])
            met[least, most > least] = met.get((least, most > least), 0) + 1
        self.assertTrue({(0, False), (1, False), (2, False), (3, False), (1, True), (2, True)} <= set(met), met)

    def test_some(self):
        self.same(fewest_rounds(EMPTY), 0)
        self.same(fewest_flow(EMPTY), ())
        self.same(fewest_rounds(LINE), 3)
        self.same(fewest_rounds(UNEVEN), 1)
        self.same(fewest_rounds(((1, 2), ((1, 2),), (2, 1), (1, 2))), 0)
        self.raises(NoFlow, {"paper": ("telling", (0, 1))}, fewest_rounds, TRI)
        self.raises(NoFlow, {"paper": ("telling", (0, 1))}, fewest_flow, TRI)

    def test_wide(self):
        for seed in range(3):
            web, order = wide_flow(seed + 20)
            flow = fewest_flow(web)
            self.assertIsNone(flow_fault_plainly(web, flow))
            self.same(lets_flow(web, flow), fewest_rounds(web))
            # An even web has just one flow.
            self.same(focused(web, order, followers(web, order)), flow)
            self.raises(NoFlow, {"paper": settle(wide_web(seed))}, fewest_rounds, wide_web(seed))


class FloorsTest(StrictCase):
    def checks(self, web, thing):
        fault = floors_fault_plainly(web, thing)
        if fault is None:
            self.same(lets_floors(web, thing), max([floor for _, floor, _ in thing], default=0))
        else:
            self.raises(InvalidPaper, {"word": fault[0], "at": fault[1]}, lets_floors, web, thing)
        return fault

    def faulty(self, word, at, web, thing):
        self.assertEqual(self.checks(web, thing), (word, at), thing)

    def test_floors_of(self):
        greatest = {}
        for web in WEBS:
            if settle(web)[0] == "flow":
                found = floors_of(web)
                self.same(floors_of(web), found)
                self.assertIsNone(self.checks(web, found))
                many = lets_floors(web, found)
                self.same(many, fewest_rounds(web))
                greatest[many] = greatest.get(many, 0) + 1
        self.assertGreater(min(greatest[many] for many in range(4)), 1)
        for seed in range(3):
            web, _ = wide_flow(seed + 30)
            self.assertIsNone(self.checks(web, floors_of(web)))
            self.same(lets_floors(web, floors_of(web)), fewest_rounds(web))
        self.same(floors_of(EMPTY), ())
        self.same(lets_floors(EMPTY, ()), 0)
        self.same(lets_floors(ROW, ((0, 1, ()), (1, 1, ()))), 1)

    def test_no_floors_are_greater_than_the_fewest_rounds(self):
        done = 0
        for web in [ROW, LINE, UNEVEN, PLUS] + SPARSE + EVEN:
            looked, _ = parts_of(web)
            if settle(web)[0] != "flow" or len(looked) > 3:
                continue
            for floors in itertools.product(range(1, 5), repeat=len(looked)):
                choices = []
                for dot, floor in zip(looked, floors):
                    bars = [lot for lot in all_lots(looked) if dot in lot] if floor > 1 else [()]
                    choices.append([(dot, floor, bar) for bar in bars])
                for thing in itertools.product(*choices):
                    if self.checks(web, thing) is None:
                        self.assertLessEqual(lets_floors(web, thing), fewest_rounds(web))
                        done += 1
        self.assertGreater(done, 100)

    def test_shape(self):
        good = ((0, 2, (0,)), (1, 1, ()))
        self.assertIsNone(self.checks(ROW, good))
        for thing in ANY_VALUES + (
            list(good), good[:1], good[::-1], good + ((2, 1, ()),), ([0, 2, (0,)], good[1]), ((0, 2), good[1]),
            ((0, 2, (0,), ()), good[1]), ((False, 2, (0,)), good[1]), (good[0], (True, 1, ())), (good[0], good[0]),
            ((0, 1), (1, 1)), "ab", (0, 1), (None, None), ((1, 2, (0,)), good[1]), (("0", 1, ()), good[1]),
        ):
            self.faulty("shape", -1, ROW, thing)

    def test_floors(self):
        for floor in (None, True, False, 0, -1, "1", "", (), (1,), [], [1]):
            self.faulty("floor", 0, ROW, ((0, floor, None), (1, floor, ())))
            self.faulty("floor", 1, ROW, ((0, 2, None), (1, floor, ())))

    def test_bars(self):
        for bar in (None, 0, 1, True, "", [], [0], (0,), (1,), (0, 1), ((),)):
            self.faulty("bar", 1, ROW, ((0, 2, (0,)), (1, 1, bar)))
            self.faulty("bar", 0, ROW, ((0, 1, bar), (1, 1, bar)))
        for bar in (None, 0, 1, True, "", (), [], [0], (1,), (2,), (0, 2), (1, 0), (0, 0), (False,), ("0",), (9,)):
            self.faulty("bar", 0, ROW, ((0, 2, bar), (1, 1, None)))
            self.faulty("bar", 0, ROW, ((0, 10 ** 50, bar), (1, 1, None)))
        # All of one triple comes ahead of the next one, but floors come ahead of all bars.
        self.faulty("even", 0, ROW, ((0, 2, (0, 1)), (1, 1, None)))
        self.faulty("floor", 1, ROW, ((0, 2, (0, 1)), (1, 0, None)))

    def test_made_dots_that_are_not_even(self):
        # 2 is an out, so each bar of a floor above 1 is asked at it; 1 has the floor 1.
        self.faulty("even", 1, ROW, ((0, 1, ()), (1, 2, (1,))))
        self.faulty("even", 0, ROW, ((0, 3, (0,)), (1, 1, ())))
        self.faulty("even", 0, ROW, ((0, 10 ** 30, (0,)), (1, 1, ())))
        self.assertIsNone(self.checks(ROW, ((0, 2, (0,)), (1, 1, ()))))
        self.assertIsNone(self.checks(LINE, ((0, 3, (0,)), (1, 2, (1,)), (2, 1, ()))))
        self.faulty("even", 0, LINE, ((0, 4, (0,)), (1, 2, (1,)), (2, 1, ())))
        self.faulty("even", 1, LINE, ((0, 3, (0,)), (1, 3, (1,)), (2, 1, ())))

    def test_wrong_places(self):
        for web in (ROW, LINE, UNEVEN):
            for wrong in wrong_places(floors_of(web), VALUES):
                self.checks(web, wrong)


class WidenedTest(StrictCase):
    def test_small_webs(self):
        done = 0
        for web in WEBS:
            if settle(web)[0] != "flow":
                continue
            lot = widened(web)
            self.same(widened(web), lot)
            wide = put_in(web, lot)
            self.assertTrue(is_even(wide))
            self.assertEqual(settle(wide)[0], "flow")
            self.assertGreaterEqual(fewest_rounds(wide), fewest_rounds(web))
            done += lot != ()
        self.assertGreater(done, 40)

    def test_all_lots_that_can_be_put_in(self):
        # G4: there is one exactly if the web has a flow; the fewest rounds are the least of theirs.
        met = {}
        for web in WEBS:
            _, made = parts_of(web)
            wides = [put_in(web, lot) for lot in all_lots(made) if len(web[2]) + len(lot) == len(web[3])]
            rounds = [fewest_rounds(wide) for wide in wides if settle(wide)[0] == "flow"]
            has_flow = settle(web)[0] == "flow"
            self.assertEqual(bool(rounds), has_flow, web)
            if has_flow:
                self.assertEqual(min(rounds), fewest_rounds(web))
                met[max(rounds) > min(rounds)] = True
        self.assertEqual(set(met), {True, False})

    def test_some(self):
        self.same(widened(ROW), ())
        self.same(widened(EMPTY), ())
        self.same(widened(((3, 5), (), (5,), (3, 5))), (3,))
        self.raises(NoFlow, {"paper": ("telling", (0, 1))}, widened, TRI)

    def test_wide(self):
        for seed in range(3):
            dots, ties, ins, outs = wide_flow(seed + 40)[0]
            web = (dots, ties, ins[::3], outs)
            lot = widened(web)
            self.assertEqual(settle(put_in(web, lot))[0], "flow")
            self.assertEqual(len(lot), 20 - len(ins[::3]))


class ChainTest(StrictCase):
    def test_even_webs(self):
        lengths = set()
        for web in WEBS + EVEN + [wide_flow(seed + 50)[0] for seed in range(3)]:
            fields = {"ins": len(web[2]), "outs": len(web[3])}
            if fields["ins"] != fields["outs"]:
                self.raises(NotEven, fields, chain_of, web)
            elif settle(web)[0] != "flow":
                self.raises(NoFlow, {"paper": settle(web)}, chain_of, web)
            else:
                chain = chain_of(web)
                self.same(chain_of(web), chain)
                flow = dict(flow_of(web))
                self.assertTrue(all(dot in flow for dot in chain))
                self.assertTrue(all(other in flow[one] for one, other in zip(chain, chain[1:])))
                self.assertEqual(len(chain), fewest_rounds(web))
                lengths.add(len(chain))
        self.assertTrue({0, 1, 2, 3} <= lengths)

    def test_some(self):
        self.same(chain_of(EMPTY), ())
        self.same(chain_of(ROW), (0, 1))
        self.same(chain_of(LINE), (0, 1, 2))
        self.raises(NotEven, {"ins": 0, "outs": 1}, chain_of, PLUS)
        self.raises(NotEven, {"ins": 0, "outs": 2}, chain_of, FAIR)
        # Neither even, nor with a flow.
        self.raises(NotEven, {"ins": 1, "outs": 0}, chain_of, ((0,), (), (0,), ()))
        self.raises(NoFlow, {"paper": ("telling", (0, 1))}, chain_of, TRI)


class OrdersTest(StrictCase):
    def lead_or_bar_plainly(self, web, order, place):
        """A lot by which the look can be led, or None; lots by which it is barred."""
        _, made = parts_of(web)
        seen = set(order[:place + 1])
        unseen = [dot for dot in made if dot not in seen]
        leads = [lot for lot in all_lots(unseen) if odd_plainly(web, lot) & seen == {order[place]}]
        bars = [
            lot for lot in all_lots(sorted(seen))
            if order[place] in lot and not odd_plainly(web, lot) & set(unseen)
        ]
        return leads, bars

    def test_orders_of_small_webs(self):
        met = {True: 0, False: 0}
        for web in WEBS:
            looked, _ = parts_of(web)
            flows = small_flows(web) if len(looked) <= 3 else None
            for order in itertools.islice(itertools.permutations(looked), 24):
                found = allowed(web, order)
                self.same(allowed(web, order), found)
                both = [self.lead_or_bar_plainly(web, order, place) for place in range(len(order))]
                self.assertTrue(all(bool(leads) != bool(bars) for leads, bars in both))
                first = next((place for place, (leads, _) in enumerate(both) if not leads), None)
                self.same(is_let(web, order), first is None)
                self.same(lets_allowed(web, order, found), found[0])
                self.assertIsNone(allowed_fault_plainly(web, order, found))
                met[first is None] += 1
                if first is None:
                    self.assertEqual(found[0], "let")
                    flow = focused(web, order, found[1])
                    self.assertTrue(keeps_arrows(order, arrows_of(web, flow)))
                else:
                    self.same(found[:2], ("barred", first))
                    self.assertIn(found[2], both[first][1])
                if flows is not None:
                    # G3: an order is let exactly if it keeps the arrows of some flow.
                    keeps = any(keeps_arrows(order, arrows_of(web, flow)) for flow in flows)
                    self.assertEqual(keeps, first is None)
        self.assertGreater(min(met.values()), 100)

    def test_some(self):
        self.same(allowed(EMPTY, ()), ("let", ()))
        self.same(allowed(ROW, (0, 1)), ("let", ((1,), (2,))))
        self.same(is_let(ROW, (1, 0)), False)
        self.same(is_let(EMPTY, ()), True)
        self.same(allowed(TRI, (0, 1)), ("barred", 1, (0, 1)))
        self.same(is_let(UNEVEN, (1, 0)), True)
        self.same(is_let(UNEVEN, (0, 1)), True)

    def test_wide(self):
        for seed in range(3):
            web, order = wide_flow(seed + 60)
            found = allowed(web, order)
            self.assertIsNone(allowed_fault_plainly(web, order, found))
            self.same(lets_allowed(web, order, found), "let")
            self.assertIsNone(flow_fault_plainly(web, focused(web, order, found[1])))
            back = allowed(web, order[::-1])
            self.assertIsNone(allowed_fault_plainly(web, order[::-1], back))
            self.same(lets_allowed(web, order[::-1], back), "barred")

    def test_no_orders(self):
        for order in ANY_VALUES + ((0,), (1,), (0, 0), (0, 1, 1), (0, 2), (0, 1, 2), [0, 1], (False, 1), (0, True), (0, 9)):
            if repr(order) != "(0, 1)":
                self.refuses("order", allowed, ROW, order)
                self.refuses("order", is_let, ROW, order)
                self.refuses("order", lets_allowed, ROW, order, ("let", ((1,), (2,))))
                self.refuses("order", lets_allowed, ROW, order, None)
        self.refuses("order", allowed, EMPTY, (0,))


class LetsAllowedTest(StrictCase):
    def checks(self, web, order, thing):
        fault = allowed_fault_plainly(web, order, thing)
        if fault is None:
            self.same(lets_allowed(web, order, thing), thing[0])
        else:
            self.raises(InvalidPaper, {"word": fault[0], "at": fault[1]}, lets_allowed, web, order, thing)
        return fault

    def faulty(self, word, at, web, order, thing):
        self.assertEqual(self.checks(web, order, thing), (word, at), thing)

    def test_shape(self):
        for thing in ANY_VALUES + (
            ("let",), ("let", ((1,),)), ("let", [(1,), (2,)]), ("let", ((1,), (2,), ())), ["let", ((1,), (2,))],
            ("let", ((1,), (2,)), ()), ("Let", ((1,), (2,))), ("let", "ab"), ("let", None), ("barred", 1), ("barred",),
            ("barred", 1, (0,), ()), ["barred", 1, (0,)], (("barred",), 1, (0,)), (None, 1, (0,)), ("let", 1, (0,)),
            ("barred", ((1,), (2,))), "barred", ("", ()), (0, ((1,), (2,))), ("let", (((1,), (2,)),)),
        ):
            self.faulty("shape", -1, ROW, (0, 1), thing)
        self.faulty("shape", -1, EMPTY, (), ("let", ((),)))
        self.assertIsNone(self.checks(EMPTY, (), ("let", ())))

    def test_lots(self):
        for lot in (None, 0, 1, True, "", (), [], [2], (0,), (1,), (0, 2), (1, 2), (3,), (True,), ("2",), ((2,),), (2, 2)):
            self.faulty("lot", 1, ROW, (0, 1), ("let", ((1,), lot)))
            if lot != (1,) and lot != (1, 2):
                self.faulty("lot", 0, ROW, (0, 1), ("let", (lot, lot)))
        self.assertIsNone(self.checks(ROW, (0, 1), ("let", ((1, 2), (2,)))))

    def test_places_and_bars(self):
        for place in (None, True, False, -1, 2, 10 ** 30, "0", "", (), (0,), []):
            self.faulty("place", -1, ROW, (1, 0), ("barred", place, None))
            self.faulty("place", -1, ROW, (1, 0), ("barred", place, (0,)))
        self.faulty("place", -1, EMPTY, (), ("barred", 0, ()))
        for bar in (None, 0, True, "", (), [], [0], (1,), (1, 0), (0, 0), (0, 2), (False,), (0, True), (9,), ("0",), ((0,),)):
            self.faulty("bar", -1, ROW, (1, 0), ("barred", 1, bar))
        # A dot that is not seen yet.
        self.faulty("bar", -1, ROW, (1, 0), ("barred", 0, (0, 1)))
        self.faulty("bar", -1, ROW, (0, 1), ("barred", 0, (0, 1)))
        # The look at place 0 can be led, so nothing bars it; 1 is seen, 2 is not.
        self.faulty("even", 2, ROW, (1, 0), ("barred", 0, (1,)))
        self.faulty("even", 2, ROW, (1, 0), ("barred", 1, (0, 1)))
        self.faulty("even", 1, ROW, (0, 1), ("barred", 0, (0,)))
        self.assertIsNone(self.checks(ROW, (1, 0), ("barred", 1, (0,))))
        # A look at a place further on than the first one that can't be led.
        web = ((0, 1, 2, 3), ((0, 1), (2, 3)), (), ())
        self.assertEqual(allowed(web, (0, 1, 2, 3))[:2], ("barred", 1))
        self.assertIsNone(self.checks(web, (0, 1, 2, 3), ("barred", 3, (2, 3))))
        self.assertIsNone(self.checks(web, (0, 1, 2, 3), ("barred", 1, (0, 1))))

    def test_all_lots_and_bars_of_small_webs(self):
        met = {}
        for web in [ROW, LINE, PLUS, UNEVEN, TRI] + some_webs(30, 67, 4):
            looked, made = parts_of(web)
            for order in itertools.islice(itertools.permutations(looked), 6):
                for place in range(len(order)):
                    for bar in all_lots(web[0]):
                        fault = self.checks(web, order, ("barred", place, bar))
                        met["barred", fault and fault[0]] = True
                for lots in itertools.islice(itertools.product(list(all_lots(made)), repeat=len(order)), 200):
                    fault = self.checks(web, order, ("let", lots))
                    met["let", fault and fault[0]] = True
        self.assertEqual(
            set(met), {("barred", None), ("barred", "bar"), ("barred", "even"), ("let", None), ("let", "lot")}
        )


class ConsequencesTest(StrictCase):
    def test_kinds(self):
        # With at least as many ins as outs never "fair"; with more ins never "flow".
        for web in WEBS:
            kind = kind_of(web)
            self.assertEqual(kind == "flow", settle(web)[0] == "flow")
            if len(web[2]) >= len(web[3]):
                self.assertNotEqual(kind, "fair")
            if len(web[2]) > len(web[3]):
                self.assertNotEqual(kind, "flow")

    def test_no_looked_dots(self):
        for web in (EMPTY, ((2, 4), ((2, 4),), (), (4, 2)), ((2, 4), (), (4, 2), (2, 4))):
            self.same(flow_of(web), ())
            self.same(fewest_flow(web), ())
            self.same(allowed(web, ()), ("let", ()))
            self.same(focused(web, (), ()), ())
            self.same(floors_of(web), ())
            self.same(lets_floors(web, ()), 0)
        self.same(chain_of(((2, 4), (), (4, 2), (2, 4))), ())
        self.same(widened(((2, 4), ((2, 4),), (), (4, 2))), (2, 4))
