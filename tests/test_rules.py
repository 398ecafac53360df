"""[11], [77] to [81], [84]: rules of plans, short plans, the checker of rules, how many dots are left."""

import random

from lookundone.bounds import most_left, odd_inner
from lookundone.circuitplans import circuit_plan
from lookundone.errors import InvalidPaper
from lookundone.halves import halves_done
from lookundone.merges import merge_done
from lookundone.plankinds import is_plan, odd_angles
from lookundone.plansums import map_of
from lookundone.quarters import quarter_done
from lookundone.rules import rule_done, rules_of
from lookundone.scaling import turned
from lookundone.settling import settle
from lookundone.shortening import lets_rules, shortened
from lookundone.telling import telling_lots
from tests.common import ANY_VALUES, EMPTY, LINE, PLUS, ROW, SEEN, TRI, StrictCase
from tests.rule_oracles import inner_plainly, rule_done_plainly, rules_plainly
from tests.some_webs import some_web, with_angles
from tests.test_circuits import some_circuit

EMPTY_PLAN = (EMPTY, ())
NO_DOTS = (None, True, False, "", "1", (), (1,), [], [1], -1, 10 ** 30)


def some_plan(chance, many, angles=(0, 2, 4, 6), greatest=30):
    """A plan with few ins and outs, and mostly such angles."""
    web = some_web(chance, many, greatest, min(many, chance.randint(0, 2)), min(many, chance.randint(0, 2)), 0.5)
    return web, tuple(chance.choice(angles) if chance.random() < 0.8 else chance.randint(0, 7) for _ in web[0])


CHANCE = random.Random(77)
PLANS = [EMPTY_PLAN, (ROW, (0, 2, 0)), (LINE, (1, 4, 3, 5)), (LINE, (1, 4, 0, 5)), (TRI, (1, 0, 1))]
PLANS += [some_plan(CHANCE, k % 8) for k in range(160)]
PLANS += [some_plan(CHANCE, 5 + k % 4, (0, 4)) for k in range(100)]


class RulesTest(StrictCase):
    def test_which_rules_fit(self):
        words = {}
        for plan in PLANS:
            rules = rules_plainly(plan)
            self.same(rules_of(plan), rules)
            for rule in rules:
                words[rule[0]] = words.get(rule[0], 0) + 1
        self.assertGreater(min(words[word] for word in ("quarter", "halves", "merge")), 50)

    def test_rules_done(self):
        kinds = set()
        for plan in PLANS:
            for rule in rules_plainly(plan):
                wanted = rule_done_plainly(plan, rule)
                self.same(rule_done(plan, rule), wanted)
                call = {"quarter": quarter_done, "halves": halves_done, "merge": merge_done}[rule[0]]
                self.same(call(plan, *rule[1:]), wanted)
                self.assertTrue(is_plan(wanted[0]))
                angle = dict(zip(plan[0][0], plan[1]))
                kinds.add((rule[0], *[angle[dot] for dot in rule[1:] if angle[dot] % 2 == 0][:2]))
        for kind in ("quarter", 2), ("quarter", 6), *[("halves", a, b) for a in (0, 4) for b in (0, 4)]:
            self.assertIn(kind, kinds)
        for kind in [("merge", a, b) for a in (0, 4) for b in (0, 2, 4, 6)]:
            self.assertIn(kind, kinds)

    def test_maps(self):
        # The turn of each rule, against the sums over all lots ahead of it and behind it.
        for plan in PLANS:
            if len(plan[0][0]) <= 7:
                table = map_of(plan)
                for rule in rules_of(plan):
                    new, turn = rule_done(plan, rule)
                    self.same(table, turned(map_of(new), turn), (plan, rule))

    def test_what_rules_keep(self):
        for plan in PLANS:
            telling = len(plan[0][0]) > 7 or telling_lots(plan[0]) != ()
            word = settle(plan[0])[0]
            for rule in rules_of(plan):
                new, _ = rule_done(plan, rule)
                self.assertEqual(new[0][2:], plan[0][2:])
                self.assertLessEqual(len(odd_inner(new)), len(odd_inner(plan)))
                self.assertLessEqual(len(odd_angles(new)), len(odd_angles(plan)))
                if not telling:
                    self.assertEqual(telling_lots(new[0]), ())
                if word == "flow" and len(plan[0][2]) == len(plan[0][3]):
                    self.assertEqual(settle(new[0])[0], "flow")

    def test_some_quarters(self):
        star = ((0, 1, 2, 3), ((0, 3), (1, 3), (2, 3), (0, 1)), (), (0, 1, 2))
        self.same(quarter_done((star, (7, 0, 1, 2)), 3), ((((0, 1, 2), ((0, 2), (1, 2)), (), (0, 1, 2)), (5, 6, 7)), 7))
        self.same(quarter_done((star, (7, 0, 1, 6)), 3), ((((0, 1, 2), ((0, 2), (1, 2)), (), (0, 1, 2)), (1, 2, 3)), 1))
        # No neighbours at all.
        self.same(quarter_done((((5,), (), (), ()), (2,)), 5), ((EMPTY, ()), 7))
        for angle in (0, 1, 3, 4, 5, 7):
            self.refuses("dot", quarter_done, (star, (7, 0, 1, angle)), 3)
        # Dots that are no inner ones.
        self.refuses("dot", quarter_done, (ROW, (2, 2, 2)), 0)
        self.refuses("dot", quarter_done, (ROW, (2, 2, 2)), 2)
        for dot in NO_DOTS + (3, 9999):
            self.refuses("dot", quarter_done, (ROW, (2, 2, 2)), dot)

    def test_some_halves(self):
        # 0 is tied to 5 alone, 1 to 6 alone, 2 and 3 to both.
        web = ((0, 1, 2, 3, 5, 6), ((0, 5), (1, 6), (2, 5), (2, 6), (3, 5), (3, 6), (5, 6), (2, 3)), (0,), (1, 2, 3))
        left = ((0, 1, 2, 3), ((0, 1), (0, 2), (0, 3), (1, 2), (1, 3), (2, 3)), (0,), (1, 2, 3))
        for angles, wanted, turn in (
            ((0, 0), (0, 1, 6, 7), 0), ((0, 4), (4, 1, 2, 3), 0), ((4, 0), (0, 5, 2, 3), 0), ((4, 4), (4, 5, 6, 7), 4),
        ):
            self.same(halves_done((web, (0, 1, 2, 3, *angles)), 5, 6), ((left, wanted), turn))
        plan = (web, (0, 1, 2, 3, 0, 4))
        self.refuses("one", halves_done, plan, 6, 5)
        self.refuses("one", halves_done, plan, 0, 5)
        self.refuses("other", halves_done, plan, 5, 5)
        self.refuses("other", halves_done, plan, 5, 2)
        for angles in ((2, 0), (1, 0), (0, 6), (3, 4), (7, 7)):
            self.refuses("one", halves_done, (web, (0, 1, 2, 3, *angles)), 5, 6)
        for dot in NO_DOTS + (9999,):
            self.refuses("one", halves_done, plan, dot, 6)
            self.refuses("one", halves_done, plan, dot, None)
            self.refuses("other", halves_done, plan, 5, dot)
        # Not tied, or one of them an in or an out.
        self.refuses("one", halves_done, (((1, 2), (), (), ()), (0, 0)), 1, 2)
        self.refuses("one", halves_done, (((1, 2), ((1, 2),), (1,), ()), (0, 0)), 1, 2)
        self.refuses("one", halves_done, (((1, 2), ((1, 2),), (), (2,)), (0, 0)), 1, 2)
        self.refuses("other", halves_done, (((0, 1, 2), ((0, 2), (1, 2)), (), ()), (0, 0, 0)), 0, 1)
        self.same(halves_done((((1, 2), ((1, 2),), (), ()), (4, 4)), 1, 2), ((EMPTY, ()), 4))
        # 1 is the first dot of no pair but (1, 2).
        self.refuses("other", halves_done, (((0, 1, 2), ((0, 1), (1, 2)), (), ()), (0, 0, 0)), 1, 0)

    def test_some_merges(self):
        # 2 stands between 3 and 1; 3 is tied to 0 and 4 as well, 1 to 0.
        ties = ((0, 1), (0, 3), (1, 2), (2, 3), (3, 4))
        web = ((0, 1, 2, 3, 4), ties, (0,), (1, 4))
        self.same(
            merge_done((web, (1, 2, 0, 5, 7)), 2, 3, 1), ((((0, 1, 4), ((1, 4),), (0,), (1, 4)), (1, 7, 7)), 0),
        )
        self.same(
            merge_done((web, (1, 2, 4, 5, 7)), 2, 3, 1), ((((0, 1, 4), ((1, 4),), (0,), (1, 4)), (5, 5, 3)), 3),
        )
        tied = ((0, 1, 2, 3, 4), tuple(sorted(ties + ((1, 3),))), (0,), (1, 4))
        self.same(
            merge_done((tied, (1, 2, 0, 5, 7)), 2, 3, 1), ((((0, 1, 4), ((1, 4),), (0,), (1, 4)), (1, 3, 7)), 0),
        )
        self.same(
            merge_done((tied, (1, 2, 4, 5, 7)), 2, 3, 1), ((((0, 1, 4), ((1, 4),), (0,), (1, 4)), (5, 5, 3)), 3),
        )
        plan = (web, (1, 2, 0, 5, 7))
        self.refuses("inner", merge_done, plan, 2, 1, 3)
        self.refuses("other", merge_done, plan, 2, 3, 0)
        self.refuses("other", merge_done, plan, 2, 3, 3)
        self.refuses("other", merge_done, plan, 2, 3, 4)
        self.refuses("dot", merge_done, plan, 3, 2, 1)
        self.refuses("dot", merge_done, plan, 0, 3, 1)
        for angle in (1, 2, 3, 5, 6, 7):
            self.refuses("dot", merge_done, (web, (1, 2, angle, 5, 7)), 2, 3, 1)
        # Three neighbours, one neighbour, and no neighbour that is inner.
        self.refuses("dot", merge_done, (tied, (0, 0, 0, 0, 0)), 3, 2, 1)
        self.refuses("dot", merge_done, (((0, 1, 2), ((0, 1),), (), ()), (0, 0, 0)), 0, 1, 2)
        self.refuses("dot", merge_done, (ROW, (0, 0, 0)), 1, 0, 2)
        for dot in NO_DOTS + (9999,):
            self.refuses("dot", merge_done, plan, dot, 3, 1)
            self.refuses("dot", merge_done, plan, dot, None, None)
            self.refuses("inner", merge_done, plan, 2, dot, 1)
            self.refuses("inner", merge_done, plan, 2, dot, None)
            self.refuses("other", merge_done, plan, 2, 3, dot)

    def test_each_wrong_parameter(self):
        # For each plan all dots in all places, against the rules that fit.
        for plan in PLANS[:90]:
            rules = rules_plainly(plan)
            halves = [rule[1:] for rule in rules if rule[0] == "halves"]
            merges = [rule[1:] for rule in rules if rule[0] == "merge"]
            for one in plan[0][0]:
                for other in plan[0][0]:
                    if (one, other) not in halves:
                        word = "other" if any(pair[0] == one for pair in halves) else "one"
                        self.refuses(word, halves_done, plan, one, other)
                    for third in plan[0][0]:
                        if (one, other, third) in merges:
                            continue
                        word = "other" if any(triple[:2] == (one, other) for triple in merges) else "inner"
                        word = word if any(triple[0] == one for triple in merges) else "dot"
                        self.refuses(word, merge_done, plan, one, other, third)

    def test_no_rules(self):
        plan = (LINE, (1, 4, 0, 5))
        self.same(rules_of(plan), (("halves", 1, 2), ("merge", 1, 2, 0), ("merge", 2, 1, 3)))
        for rule in ANY_VALUES + (
            ["halves", 1, 2], ("halves", True, 2), ("halves", 2, 1), ("halves", 1), ("halves", 1, 2, 3), ("quarter", 1),
            ("merge", True, 2, 0), ("merge", 1, 2, False), ("merge", 1, 2), ("merge", 1, 0, 2), ("Halves", 1, 2),
            (("halves", 1, 2),), "halves", ("halves", (1, 2)), ("halves", 1, "2"), (1, 2), ("halves",), ("halves", 1, None),
            ("halves", [1], 2), (None, 1, 2), ("merge", 1, 2, 3), ("merge", 2, 1, 0),
        ):
            self.refuses("rule", rule_done, plan, rule)
            self.raises(InvalidPaper, {"word": "rule", "at": 0}, lets_rules, plan, (rule,))
        self.refuses("rule", rule_done, EMPTY_PLAN, ("quarter", 0))


class ShortenedTest(StrictCase):
    def test_plans(self):
        done = {}
        for plan in PLANS:
            short, rules, turn = shortened(plan)
            self.same(shortened(plan), (short, rules, turn))
            at, total = plan, 0
            for rule in rules:
                self.same(rule, rules_plainly(at)[0])
                at, more = rule_done_plainly(at, rule)
                total += more
            self.same((at, total % 8), (short, turn))
            self.assertEqual(rules_plainly(short), ())
            self.same(lets_rules(plan, rules), (short, turn))
            self.assertEqual(short[0][2:], plan[0][2:])
            self.assertLessEqual(len(odd_inner(short)), len(odd_inner(plan)))
            if len(plan[0][0]) <= 7:
                self.same(map_of(plan), turned(map_of(short), turn))
                if telling_lots(plan[0]) == ():
                    self.assertEqual(telling_lots(short[0]), ())
                    self.assertLessEqual(len(short[0][0]), min(most_left(plan), most_left(short)))
            done[len(rules)] = done.get(len(rules), 0) + 1
        self.assertTrue({0, 1, 2, 3} <= set(done), done)

    def test_circuits(self):
        chance = random.Random(84)
        for k in range(40):
            plan = circuit_plan(some_circuit(chance, 1 + k % 3, 10))
            short, rules, turn = shortened(plan)
            self.assertEqual(settle(short[0])[0], "flow")
            self.assertLessEqual(len(short[0][0]), min(most_left(plan), most_left(short)))
            if len(plan[0][0]) <= 9:
                self.same(map_of(plan), turned(map_of(short), turn))

    def test_some(self):
        self.same(shortened(EMPTY_PLAN), (EMPTY_PLAN, (), 0))
        self.same(shortened((ROW, (1, 3, 5))), ((ROW, (1, 3, 5)), (), 0))
        self.same(shortened((ROW, (1, 0, 5))), ((ROW, (1, 0, 5)), (), 0))
        # A wide row of dots.
        dots = tuple(range(20))
        web = (dots, tuple(zip(dots, dots[1:])), (0,), (19,))
        short, rules, turn = shortened((web, (0,) * 20))
        self.same((short, turn), ((((0, 19), ((0, 19),), (0,), (19,)), (0, 0)), 0))
        self.assertEqual(len(rules), 9)

    def test_lets_rules(self):
        plan = (LINE, (1, 6, 2, 5))
        first = ("quarter", 1)
        self.same(lets_rules(plan, ()), (plan, 0))
        self.same(lets_rules(plan, (first,)), shortened(plan)[::2])
        for thing in ANY_VALUES + ([], [first], "quarter"):
            if type(thing) is not tuple:
                self.raises(InvalidPaper, {"word": "shape", "at": -1}, lets_rules, plan, thing)
        # 2 fits at first, and no longer behind the first rule.
        self.same(lets_rules(plan, (("quarter", 2),))[1], 7)
        self.raises(InvalidPaper, {"word": "rule", "at": 1}, lets_rules, plan, (first, ("quarter", 2)))
        self.raises(InvalidPaper, {"word": "rule", "at": 1}, lets_rules, plan, (first, first, None))
        self.raises(InvalidPaper, {"word": "rule", "at": 0}, lets_rules, plan, (["quarter", 1], None))
        self.raises(InvalidPaper, {"word": "rule", "at": 0}, lets_rules, plan, (("quarter", True),))
        # The turns are added by 8.
        apart = (((1, 2, 3), (), (), ()), (2, 2, 6))
        self.same(lets_rules(apart, (("quarter", 3), ("quarter", 1), ("quarter", 2))), (EMPTY_PLAN, 7))
        self.same(lets_rules(apart, (("quarter", 1), ("quarter", 2))), ((((3,), (), (), ()), (6,)), 6))

    def test_rules_in_any_sequence(self):
        chance = random.Random(80)
        for plan in PLANS:
            at, rules, total = plan, [], 0
            while rules_plainly(at) and len(rules) < 5:
                rules.append(chance.choice(rules_plainly(at)))
                at, turn = rule_done_plainly(at, rules[-1])
                total += turn
                self.same(lets_rules(plan, tuple(rules)), (at, total % 8))
            fault = len(rules)
            rules.append(("quarter", 9999))
            self.raises(InvalidPaper, {"word": "rule", "at": fault}, lets_rules, plan, tuple(rules))


class BoundsTest(StrictCase):
    def test_plans(self):
        for plan in PLANS:
            (dots, _, ins, outs), angles = plan
            odd = tuple(dot for dot in inner_plainly(plan[0]) if dict(zip(dots, angles))[dot] % 2)
            self.same(odd_inner(plan), odd)
            self.same(most_left(plan), 2 * len(odd) + len(ins) + 2 * len(set(outs) - set(ins)))

    def test_some(self):
        self.same((odd_inner(EMPTY_PLAN), most_left(EMPTY_PLAN)), ((), 0))
        # Odd angles at ins and outs do not count, outs that are ins count once.
        self.same((odd_inner((ROW, (1, 3, 5))), most_left((ROW, (1, 3, 5)))), ((1,), 5))
        self.same((odd_inner((ROW, (1, 2, 5))), most_left((ROW, (1, 2, 5)))), ((), 3))
        self.same((odd_inner((SEEN, (1, 1))), most_left((SEEN, (1, 1)))), ((1,), 3))
        self.same(most_left((PLUS, (1, 1))), 4)
        self.same(most_left((((1, 2), (), (1, 2), (2, 1)), (1, 1))), 2)

    def test_what_is_left_when_neither_quarter_nor_halves_fit(self):
        # G10: at most as many inner dots of angle 0 or 4 as odd inner dots and outs that are no ins together.
        chance = random.Random(81)
        done = 0
        for _ in range(800):
            plan = with_angles(chance, some_web(chance, chance.randint(3, 7), 9, 1, chance.randint(1, 2), 0.5))
            web, angles = plan
            words = [rule[0] for rule in rules_of(plan)]
            if "quarter" in words or "halves" in words or telling_lots(web) != ():
                continue
            halves = [dot for dot in inner_plainly(web) if dict(zip(web[0], angles))[dot] % 4 == 0]
            self.assertLessEqual(len(halves), len(odd_inner(plan)) + len(set(web[3]) - set(web[2])))
            done += 1
        self.assertGreater(done, 30)
