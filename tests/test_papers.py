"""[9], [59], [64], [65]: shut lots, papers, and which paper a web has."""

import itertools
import random

from lookundone.chains import chain_of
from lookundone.errors import InvalidPaper, NoFlow
from lookundone.floors import floors_of
from lookundone.flowkinds import lets_flow
from lookundone.layers import fewest_flow, fewest_rounds
from lookundone.rings import shortest_ring
from lookundone.settling import flow_of, settle
from lookundone.shutlots import lets_paper, lets_shut, shut_of
from lookundone.tellinglots import lets_telling
from lookundone.widening import widened
from tests.common import ANY_VALUES, EMPTY, FAIR, LINE, PLUS, ROW, SEEN, TRI, StrictCase, wrong_places
from tests.flow_oracles import all_flows, flow_fault_plainly, odd_plainly, parts_of, telling_plainly
from tests.oracles import all_lots
from tests.paper_oracles import shut_fault_plainly
from tests.some_webs import some_web, some_webs, wide_web
from tests.test_flows import TWO_RING, wide_flow

LONE = ((0,), (), (), ())
TRI_SHUT = ((0, 1), ((0, (0, 1)), (1, (0, 1))))
ROW_FLOW = ((0, (1,)), (1, (2,)))
WEBS = [ROW, TRI, PLUS, LINE, EMPTY, SEEN, FAIR, LONE, TWO_RING] + some_webs(90, 64, 6)
# Even webs without a flow, in which the lots that lead the looks make rings of three and of four arrows.
RINGS = [
    (
        (0, 1, 3, 4, 6, 7, 8, 9),
        (
            (0, 1), (0, 4), (0, 6), (1, 6), (1, 8), (1, 9), (3, 8), (3, 9), (4, 6), (4, 7), (4, 8), (6, 8), (7, 8),
        ),
        (4, 8, 7), (0, 1, 7),
    ),
    ((1, 3, 4, 5, 6, 7), ((1, 3), (1, 4), (1, 7), (3, 6), (4, 5), (5, 7), (6, 7)), (7,), (1,)),
]
VALUES = (None, True, False, 0, 1, 2, -1, "", (), [], (0,), (1,), (2,), (0, 1), [0, 1], (1, 0), ((0, 1), (0, 1)))


class ShutTest(StrictCase):
    def checks(self, web, thing):
        fault = shut_fault_plainly(web, thing)
        if fault is None:
            self.same(lets_shut(web, thing), len(thing[0]), (web, thing))
            self.same(lets_paper(web, ("shut", *thing)), "shut")
        else:
            fields = {"word": fault[0], "at": fault[1]}
            self.raises(InvalidPaper, fields, lets_shut, web, thing)
            if type(thing) is tuple and len(thing) == 2:
                self.raises(InvalidPaper, fields, lets_paper, web, ("shut", *thing))
        return fault

    def faulty(self, word, at, web, thing):
        self.assertEqual(self.checks(web, thing), (word, at), thing)

    def test_lots_of_pairs_of_small_webs(self):
        found = set()
        for web in [TRI, SEEN, LONE, TWO_RING] + some_webs(40, 65, 4):
            looked, _ = parts_of(web)
            for lot in all_lots(looked):
                bars = list(all_lots(lot))
                for chosen in itertools.islice(itertools.product(bars, repeat=len(lot)), 300):
                    fault = self.checks(web, (lot, tuple(zip(lot, chosen))))
                    found.add(fault and fault[0])
        self.assertEqual(found, {None, "lot", "bar", "even"})

    def test_shape(self):
        for thing in ANY_VALUES + (list(TRI_SHUT), TRI_SHUT[:1], TRI_SHUT + ((),), "ab", (TRI_SHUT,)):
            if type(thing) is not tuple or len(thing) != 2:
                self.faulty("shape", -1, TRI, thing)
                self.faulty("shape", -1, EMPTY, thing)

    def test_lot(self):
        for lot in (
            None, 0, True, "", "01", (), [], [0, 1], (1, 0), (0, 0), (0, 2), (2,), (0, 1, 2), (3,), (False, 1), (0, True),
            ("0",), ((0,),), (10000,),
        ):
            self.faulty("lot", -1, TRI, (lot, TRI_SHUT[1]))
            self.faulty("lot", -1, TRI, (lot, None))
        self.faulty("lot", -1, EMPTY, ((), ()))

    def test_pairs(self):
        for pairs in (
            None, 0, (), [], list(TRI_SHUT[1]), TRI_SHUT[1][:1], TRI_SHUT[1][::-1], TRI_SHUT[1] + ((2, ()),), (0, 1),
            ([0, (0, 1)], (1, (0, 1))), ((0, (0, 1)), [1, (0, 1)]), ((0, (0, 1)), (1, (0, 1), ())), ((0,), (1,)), "ab",
            ((False, (0, 1)), (1, (0, 1))), ((0, (0, 1)), (True, (0, 1))), ((0, (0, 1)), (0, (0, 1))), ((0, 1), (2, 3)),
        ):
            self.faulty("pairs", -1, TRI, ((0, 1), pairs))

    def test_bars(self):
        for bar in (None, 0, 1, True, "", (), [], [0, 1], (1, 0), (0, 0, 1), (0, 1, 2), (2,), (False, 1), (0, True), (0, 9)):
            self.faulty("bar", 0, TRI, ((0, 1), ((0, bar), (1, bar))))
            self.faulty("bar", 1, TRI, ((0, 1), ((0, (0, 1)), (1, bar))))
            # All of one pair comes ahead of the next one.
            self.faulty("even", 0, TRI, ((0, 1), ((0, (0,)), (1, bar))))
        self.faulty("bar", 0, TRI, ((0, 1), ((0, (1,)), (1, (0,)))))
        self.faulty("bar", 1, TRI, ((0, 1), ((0, (0, 1)), (1, (0,)))))

    def test_made_dots_that_are_not_even(self):
        self.faulty("even", 0, TRI, ((0, 1), ((0, (0,)), (1, (1,)))))
        self.faulty("even", 1, TRI, ((0, 1), ((0, (0, 1)), (1, (1,)))))
        self.faulty("even", 0, TRI, ((0,), ((0, (0,)),)))
        self.assertIsNone(self.checks(SEEN, ((1,), ((1, (1,)),))))
        # A made dot of the lot itself is not asked.
        self.assertIsNone(self.checks(((0, 1), ((0, 1),), (), ()), ((0, 1), ((0, (0,)), (1, (0, 1))))))

    def test_wrong_places(self):
        for web in (TRI, FAIR):
            good = shut_of(web)
            for wrong in wrong_places(good, VALUES):
                self.checks(web, wrong)

    def test_shut_of(self):
        met = {True: 0, False: 0}
        for web in WEBS:
            has_flow = next(all_flows(web), None) is not None
            met[has_flow] += 1
            found = shut_of(web)
            if has_flow:
                self.assertIsNone(found)
            else:
                self.same(found, shut_of(web))
                self.assertIsNone(self.checks(web, found))
        self.assertGreater(min(met.values()), 15)

    def test_wide(self):
        for seed in range(3):
            web = wide_web(seed)
            found = shut_of(web)
            self.assertIsNone(self.checks(web, found))
            dot, bar = found[1][-1]
            for wrong in ((), bar + (9999,), tuple(part for part in bar if part != dot)):
                self.faulty("bar", len(found[0]) - 1, web, (found[0], found[1][:-1] + ((dot, wrong),)))
            self.assertIsNone(shut_of(wide_flow(seed)[0]))


class PaperTest(StrictCase):
    def test_shape(self):
        for thing in ANY_VALUES + (
            "flow", ("flow",), ["flow", ROW_FLOW], ("flow", ROW_FLOW, ()), ("Flow", ROW_FLOW), ("telling", (0, 1), ()),
            ("telling",), ("shut", (0, 1)), ("shut",), ("shut", TRI_SHUT), ["shut", *TRI_SHUT], ("shut", *TRI_SHUT, ()),
            (("flow",), ROW_FLOW), (None, ROW_FLOW), ("", *TRI_SHUT), ("flow", *TRI_SHUT), ("fair", ()), ("kind", (), ()),
            (0, ()), (True, ()), ([], ()), (ROW_FLOW, "flow"), ("shut ", *TRI_SHUT),
        ):
            for web in (ROW, TRI, EMPTY):
                self.raises(InvalidPaper, {"word": "shape", "at": -1}, lets_paper, web, thing)

    def test_what_the_others_raise(self):
        self.same(lets_paper(ROW, ("flow", ROW_FLOW)), "flow")
        self.same(lets_paper(TRI, ("telling", (0, 1))), "telling")
        self.same(lets_paper(TRI, ("shut", *TRI_SHUT)), "shut")
        self.same(lets_paper(EMPTY, ("flow", ())), "flow")
        for web, flow, word, at in (
            (ROW, (), "shape", -1), (ROW, ((0, (0,)), (1, (2,))), "lot", 0), (ROW, ((0, (1,)), (1, ())), "odd", 1),
            (((0, 1), ((0, 1),), (), ()), ((0, (1,)), (1, (0,))), "ring", -1), (ROW, list(ROW_FLOW), "shape", -1),
        ):
            self.raises(InvalidPaper, {"word": word, "at": at}, lets_paper, web, ("flow", flow))
        for lot, word, at in (((), "lot", -1), ((2,), "lot", -1), ((0,), "even", 1), ([0, 1], "lot", -1), ((1,), "even", 2)):
            self.raises(InvalidPaper, {"word": word, "at": at}, lets_paper, TRI, ("telling", lot))
        for shut, word, at in (((), "lot", -1), ((0, 2), "lot", -1), ((0, 1), "pairs", -1)):
            self.raises(InvalidPaper, {"word": word, "at": at}, lets_paper, TRI, ("shut", shut, ()))


class SettleTest(StrictCase):
    def settled(self, web):
        """The word of the web's paper, which must hold."""
        paper = settle(web)
        self.same(settle(web), paper)
        self.same(lets_paper(web, paper), paper[0])
        if paper[0] == "flow":
            self.assertEqual(len(paper), 2)
            self.assertIsNone(flow_fault_plainly(web, paper[1]))
            self.same(lets_flow(web, paper[1]), lets_flow(web, flow_of(web)))
            self.same(flow_of(web), paper[1])
            self.assertIsNone(shut_of(web))
        else:
            for call in (flow_of, fewest_rounds, fewest_flow, floors_of, widened):
                self.raises(NoFlow, {"paper": paper}, call, web)
            if len(web[2]) == len(web[3]):
                self.raises(NoFlow, {"paper": paper}, chain_of, web)
            self.assertEqual(paper[0], "telling" if len(web[2]) >= len(web[3]) else "shut")
        if paper[0] == "telling":
            self.same(lets_telling(web, paper[1]), len(paper[1]))
        return paper[0]

    def test_small_webs(self):
        chance = random.Random(65)
        met = {}
        fair = 0
        for web in WEBS + [some_web(chance, 4 + k % 4, 9, k % 3, k % 3, 0.6) for k in range(60)] + some_webs(60, 67, 7):
            word = self.settled(web)
            met[word] = met.get(word, 0) + 1
            self.assertEqual(word == "flow", next(all_flows(web), None) is not None, web)
            telling = telling_plainly(web)
            if word == "telling":
                self.assertIn(settle(web)[1], telling)
            elif word == "flow":
                self.assertEqual(telling, [])
            else:
                fair += telling == []
        self.assertGreater(min(met.values()), 12, met)
        self.assertGreater(fair, 0)

    def test_rings_of_each_length(self):
        # Even webs in which each look can be led by just one lot of made dots, and these lots make a ring.
        chance = random.Random(66)
        lengths = {}
        for web in RINGS + [some_web(chance, 4 + k % 4, 9, k % 3, k % 3, 0.6) for k in range(400)]:
            looked, made = parts_of(web)
            lots = {
                dot: [lot for lot in all_lots(made) if odd_plainly(web, lot) & set(looked) == {dot}] for dot in looked
            }
            if any(len(ones) != 1 for ones in lots.values()) or settle(web)[0] == "flow":
                continue
            self.assertEqual(self.settled(web), "telling")
            arrows = tuple((dot, other) for dot in looked for other in lots[dot][0] if other in looked)
            many = len(shortest_ring(tuple(looked), arrows))
            lengths[many] = lengths.get(many, 0) + 1
        self.assertEqual(sorted(lengths), [1, 2, 3, 4])
        self.assertGreater(sum(lengths.values()), 30)

    def test_some(self):
        self.same(settle(EMPTY), ("flow", ()))
        self.same(settle(ROW), ("flow", ROW_FLOW))
        self.same(settle(SEEN), ("telling", (1,)))
        self.same(settle(LONE), ("telling", (0,)))
        self.assertEqual(settle(FAIR)[0], "shut")
        self.same(settle(((0,), (), (0,), ())), ("telling", (0,)))
        self.same(settle(((0, 1), (), (1, 0), (0, 1))), ("flow", ()))
        # More ins than outs, and none of the looked dots alone is telling.
        self.same(settle(((0, 1, 2), ((0, 2), (1, 2)), (0, 1), (2,))), ("telling", (0, 1)))

    def test_wide(self):
        met = set()
        for seed in range(4):
            met.add(self.settled(wide_flow(seed)[0]))
            met.add(self.settled(wide_web(seed, 60, 20)))
            chance = random.Random(seed)
            met.add(self.settled(some_web(chance, 60, 10000, 12, 20, 0.2)))
            met.add(self.settled(some_web(chance, 60, 10000, 20, 19, 0.2)))
        self.assertEqual(met, {"flow", "telling", "shut"})
