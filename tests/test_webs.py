"""[4], [29], [30], [31], [36]: webs, their checker, odd lots, changed webs."""

import itertools
import random

from lookundone.errors import InvalidPaper
from lookundone.oddlots import is_even_into, lot_sum, odd_lot, ties_within
from lookundone.webchanges import put_in, renamed_web, toggled, turned_web, with_dot, without_dot
from lookundone.webchecker import lets_web
from lookundone.webkinds import inner_of, is_even, is_web, looked_of, made_of, near_of, web_of
from tests.common import ANY_VALUES, EMPTY, LINE, PLUS, ROW, TRI, StrictCase, wrong_places
from tests.oracles import all_lots
from tests.some_webs import some_webs, wide_web

WEBS = [EMPTY, ROW, TRI, PLUS, LINE, ((0,), (), (0,), (0,)), ((9999,), (), (), ())] + some_webs(60, 29)
WIDE = [wide_web(1), wide_web(2), wide_web(3, 60, 0), wide_web(4, 25, 20)]
HUGE = wide_web(5, 300, 100)


class WebKindsTest(StrictCase):
    def test_webs(self):
        for web in WEBS + WIDE + [HUGE]:
            self.assertIs(is_web(web), True, web)
        self.assertIs(is_web(((0, 1), (), (1, 0), (1, 0))), True)

    def test_no_webs(self):
        for thing in (
            (), ((), (), ()), ((), (), (), (), ()), [(), (), (), ()], ([], (), (), ()), ((), [], (), ()), ((), (), [], ()),
            ((), (), (), []), ((1, 0), (), (), ()), ((0, 0), (), (), ()), ((10000,), (), (), ()), ((-1,), (), (), ()),
            ((True,), (), (), ()), ((0, True), (), (), ()), ((0, 1), ((1, 0),), (), ()), ((0, 1), ((0, 0),), (), ()),
            ((0, 1), ((0, 2),), (), ()), ((0, 1), ((0, True),), (), ()), ((0, 1), ((False, 1),), (), ()),
            ((0, 1), ([0, 1],), (), ()), ((0, 1), ((0, 1), (0, 1)), (), ()), ((0, 1), ((0,),), (), ()),
            ((0, 1, 2), ((0, 2), (0, 1)), (), ()), ((0, 1), ((0, 1, 1),), (), ()), ((0, 1), (0, 1), (), ()),
            ((0, 1), (), (0, 0), ()), ((0, 1), (), (2,), ()), ((0, 1), (), (True,), ()), ((0, 1), (), (False,), ()),
            ((0, 1), (), (), (1, 1)), ((0, 1), (), (), (2,)), ((0, 1), (), (), (True,)), ((0, 1), (), (None,), ()),
            ((0, 1), (), 0, ()), ((0, 1), (), (), 1), ((0, 1), None, (), ()), (None, (), (), ()), ("", (), (), ()),
        ):
            self.assertIs(is_web(thing), False, thing)
        for thing in ANY_VALUES:
            self.assertIs(is_web(thing), repr(thing) == repr(EMPTY), thing)

    def test_looked_made_inner(self):
        for web in WEBS + WIDE + [HUGE]:
            dots, _, ins, outs = web
            self.same(looked_of(web), tuple(sorted({*dots} - {*outs})))
            self.same(made_of(web), tuple(sorted({*dots} - {*ins})))
            self.same(inner_of(web), tuple(sorted({*dots} - {*ins} - {*outs})))
            self.assertIs(is_even(web), len(ins) == len(outs))
        both = ((0, 1, 2), (), (2, 1), (1,))
        self.same((looked_of(both), made_of(both), inner_of(both)), ((0, 2), (0,), (0,)))
        self.assertIs(is_even(both), False)
        self.assertIs(is_even(((0, 1), (), (1,), (1,))), True)

    def test_near(self):
        for web in WEBS + WIDE:
            for dot in web[0]:
                wanted = tuple(other for other in web[0] if (min(dot, other), max(dot, other)) in web[1])
                self.same(near_of(web, dot), wanted)
            for dot in (10000, -1, True, None):
                self.refuses("dot", near_of, web, dot)


class WebOfTest(StrictCase):
    def test_any_sequence(self):
        chance = random.Random(31)
        for web in WEBS + WIDE:
            dots, ties, ins, outs = web
            for _ in range(3):
                told = [chance.choice((tie, tie[::-1])) for tie in ties]
                for tie in chance.sample(ties, min(2, len(ties))):
                    told += [tie, tie[::-1]]
                chance.shuffle(told)
                self.same(web_of(tuple(chance.sample(dots, len(dots))), tuple(told), ins, outs), web)

    def test_ties_told_often(self):
        for many in range(6):
            ties = ((0, 1), (1, 0)) * 3
            self.same(web_of((0, 1), ties[:many], (), ()), ((0, 1), ((0, 1),) if many % 2 else (), (), ()))
        self.same(web_of((2, 1, 0), ((2, 1), (1, 0), (1, 2), (2, 1)), (1,), (1,)), ((0, 1, 2), ((0, 1), (1, 2)), (1,), (1,)))

    def test_ins_and_outs_keep_their_sequence(self):
        self.same(web_of((3, 1, 2), (), (3, 1), (2, 3, 1)), ((1, 2, 3), (), (3, 1), (2, 3, 1)))


class LetsWebTest(StrictCase):
    def refused(self, thing, word, at):
        self.raises(InvalidPaper, {"word": word, "at": at}, lets_web, thing)
        self.assertIs(is_web(thing), False)

    def test_webs_are_let(self):
        for web in WEBS + WIDE + [HUGE]:
            self.same(lets_web(web), len(looked_of(web)))
        self.same((lets_web(ROW), lets_web(EMPTY), lets_web(((0,), (), (), ()))), (2, 0, 1))

    def test_shape(self):
        for thing in (None, True, 0, "", "webs", (), ((), (), ()), ((), (), (), (), ()), [(), (), (), ()], (None,)):
            self.refused(thing, "shape", -1)

    def test_parts(self):
        good = ((0, 1, 2), ((0, 1), (1, 2)), (0,), (2,))
        no_lots = (None, 0, True, "", [], [0, 1, 2], (1, 0, 2), (0, 0, 1, 2), (0, 1, 10000), (0, True, 2), (-1, 0), ("0",))
        for dots in no_lots:
            self.refused((dots, *good[1:]), "dots", -1)
            self.refused((dots, None, None, None), "dots", -1)
        for ties in (None, 0, True, "", [], [(0, 1)]):
            self.refused((good[0], ties, *good[2:]), "ties", -1)
            self.refused((good[0], ties, None, None), "ties", -1)
        for ends in (None, 0, True, "", [], [0], (3,), (0, 0), (True,), (False,), ("0",), (None,), ((0,),), (0, 1, 2, 0)):
            self.refused((*good[:2], ends, good[3]), "ins", -1)
            self.refused((*good[:2], ends, None), "ins", -1)
            self.refused((*good[:3], ends), "outs", -1)

    def test_ties(self):
        bad_ties = (None, 0, "", (), (0,), (0, 1, 2), [0, 2], (0, 3), (3, 4), (2, 0), (1, 1), (0, True), (False, 1),
                    ("0", "1"), (0, None), ((0,), 1), (-1, 0))
        good = ((0, 1), (0, 2), (1, 2))
        for tie in bad_ties:
            for k in range(4):
                self.refused(((0, 1, 2), good[:k] + (tie,) + good[k:], None, None), "tie", k)

    def test_sequence(self):
        pairs = tuple(itertools.combinations(range(4), 2))
        for ties in itertools.product(pairs, repeat=3):
            wrong = [k for k in (1, 2) if ties[k] <= ties[k - 1]]
            if wrong:
                self.refused(((0, 1, 2, 3), ties, (), ()), "sequence", wrong[0])
            else:
                self.same(lets_web(((0, 1, 2, 3), ties, (), ())), 4)

    def test_all_checks_of_one_tie_come_ahead_of_those_of_the_next(self):
        dots = (0, 1, 2)
        self.refused((dots, ((0, 1), (0, 1), (5, 5)), (9,), (9,)), "sequence", 1)
        self.refused((dots, ((0, 1), (5, 5), (0, 1)), (9,), (9,)), "tie", 1)
        self.refused((dots, ((1, 2), (0, 1), None), None, None), "sequence", 1)
        self.refused((dots, ((1, 2), (1, 0)), None, None), "tie", 1)
        self.refused((dots, ((1, 2), (1, 2), (1, 2)), None, None), "sequence", 1)
        self.refused((dots, (None, (1, 2), (1, 2)), None, None), "tie", 0)

    def test_one_wrong_place(self):
        others = (None, True, False, "", -1, 10000, [], "0")
        for web in (ROW, TRI, ((0, 1), ((0, 1),), (1, 0), (0, 1))):
            for wrong in wrong_places(web, others):
                right = repr(wrong) in [repr((*web[:1], ties, *web[2:])) for ties in all_lots(web[1])]
                right = right or repr(wrong) in [repr((*web[:2], ins, web[3])) for ins in all_lots(web[2])]
                right = right or repr(wrong) in [repr((*web[:3], outs)) for outs in all_lots(web[3])]
                self.assertIs(is_web(wrong), right, wrong)
                if not right:
                    with self.assertRaises(InvalidPaper):
                        lets_web(wrong)


class OddLotsTest(StrictCase):
    def test_sums(self):
        for one, other in itertools.product(all_lots((0, 3, 7, 9999)), repeat=2):
            self.same(lot_sum(one, other), tuple(sorted({*one} ^ {*other})))
        self.same(lot_sum((), ()), ())
        chance = random.Random(5)
        for _ in range(20):
            one, other = (tuple(sorted(chance.sample(range(10000), 60))) for _ in range(2))
            self.same(lot_sum(one, other), tuple(sorted({*one} ^ {*other})))
            self.same(lot_sum(one, one), ())

    def lots(self, web):
        chance = random.Random(6)
        if len(web[0]) <= 5:
            return list(all_lots(web[0]))
        lots = [tuple(sorted(chance.sample(web[0], chance.randint(0, len(web[0]))))) for _ in range(12)]
        return [(), web[0], *lots]

    def test_odd_lots(self):
        for web in WEBS + WIDE:
            for lot in self.lots(web):
                near = {dot: [other for other in lot if other in near_of(web, dot)] for dot in web[0]}
                self.same(odd_lot(web, lot), tuple(dot for dot in web[0] if len(near[dot]) % 2))
                self.same(ties_within(web, lot), sum(one in lot and other in lot for one, other in web[1]))
                for dot in web[0]:
                    self.assertIs(is_even_into(web, dot, lot), len(near[dot]) % 2 == 0)

    def test_some_odd_lots(self):
        self.same((odd_lot(TRI, ()), odd_lot(TRI, (0,)), odd_lot(TRI, (0, 1, 2))), ((), (1, 2), ()))
        self.same((odd_lot(ROW, (0, 1)), odd_lot(ROW, (0, 2)), odd_lot(ROW, (0, 1, 2))), ((0, 1, 2), (), (0, 2)))
        self.same((ties_within(TRI, (0, 1)), ties_within(TRI, (0, 1, 2)), ties_within(ROW, (0, 2))), (1, 3, 0))
        self.assertIs(is_even_into(ROW, 1, (0, 2)), True)
        self.assertIs(is_even_into(ROW, 1, (0, 1)), False)
        self.assertIs(is_even_into(ROW, 0, ()), True)

    def test_lots_that_are_not_of_the_web(self):
        for web in WEBS + WIDE:
            foreign = next(dot for dot in range(10000) if dot not in web[0])
            for lot in ((foreign,), tuple(sorted((*web[0], foreign)))):
                self.refuses("lot", odd_lot, web, lot)
                self.refuses("lot", ties_within, web, lot)
                if web[0]:
                    self.refuses("lot", is_even_into, web, web[0][-1], lot)
                self.refuses("dot", is_even_into, web, foreign, lot)

    def test_the_odd_lot_of_a_sum(self):
        for web in WEBS + WIDE:
            lots = self.lots(web)
            for one, other in zip(lots, lots[::-1]):
                self.same(odd_lot(web, lot_sum(one, other)), lot_sum(odd_lot(web, one), odd_lot(web, other)))


class WebChangesTest(StrictCase):
    def test_toggled(self):
        for web in WEBS + WIDE[:1]:
            for one, other in itertools.islice(itertools.permutations(web[0], 2), 60):
                found = toggled(web, one, other)
                tie = (min(one, other), max(one, other))
                self.same(found, (web[0], tuple(sorted({*web[1]} ^ {tie})), *web[2:]))
                self.same(toggled(found, other, one), web)
            for dot in web[0][:3]:
                self.refuses("other", toggled, web, dot, dot)
                self.refuses("one", toggled, web, 10000, dot)
                self.refuses("other", toggled, web, dot, 10000)

    def test_with_dot_and_without_dot(self):
        for web in WEBS + WIDE:
            free = [dot for dot in (0, 5, 4999, 9999) if dot not in web[0]]
            for dot in free:
                found = with_dot(web, dot)
                self.same(found, (tuple(sorted((*web[0], dot))), *web[1:]))
                self.same(without_dot(found, dot), web)
                self.refuses("dot", without_dot, web, dot)
            for dot in web[0]:
                self.refuses("dot", with_dot, web, dot)
                if dot in web[2] or dot in web[3]:
                    self.refuses("dot", without_dot, web, dot)
                else:
                    left = tuple(other for other in web[0] if other != dot)
                    ties = tuple(tie for tie in web[1] if dot not in tie)
                    self.same(without_dot(web, dot), (left, ties, web[2], web[3]))
        self.refuses("dot", with_dot, ROW, 10000)
        self.same(without_dot(LINE, 1), ((0, 2, 3), ((2, 3),), (0,), (3,)))

    def test_turned(self):
        for web in WEBS + WIDE:
            self.same(turned_web(web), (web[0], web[1], web[3], web[2]))
            self.same(turned_web(turned_web(web)), web)

    def test_put_in(self):
        for web in WEBS + WIDE:
            made = made_of(web)
            for lot in ((), made, made[::2], made[1:], made[:1]):
                self.same(put_in(web, lot), (web[0], web[1], (*web[2], *lot), web[3]))
            for dot in web[2][:3]:
                self.refuses("lot", put_in, web, (dot,))
                self.refuses("lot", put_in, web, tuple(sorted((dot, *made))))
        self.same(put_in(ROW, (1, 2)), ((0, 1, 2), ((0, 1), (1, 2)), (0, 1, 2), (2,)))
        self.same(put_in(((0, 1, 2), (), (2,), ()), (0, 1)), ((0, 1, 2), (), (2, 0, 1), ()))

    def test_renamed(self):
        chance = random.Random(30)
        for web in WEBS + WIDE:
            dots, ties, ins, outs = web
            for kind in range(3):
                names = tuple(chance.sample(range(10000), len(dots))) if kind else dots[::-1]
                new = dict(zip(dots, names))
                found = renamed_web(web, names)
                self.assertIs(is_web(found), True)
                new_ties = sorted(tuple(sorted((new[one], new[other]))) for one, other in ties)
                ends = (tuple(new[dot] for dot in ins), tuple(new[dot] for dot in outs))
                self.same(found, (tuple(sorted(names)), tuple(new_ties), *ends))
                back = {name: dot for dot, name in new.items()}
                self.same(renamed_web(found, tuple(back[name] for name in found[0])), web)
        for names in ([5, 9, 1], (5, 9), (5, 9, 1, 2), (5, 5, 1), (5, 9, 10000), (5, 9, True), (5, 9, "1"), (5, 9, -1), None):
            self.refuses("names", renamed_web, ROW, names)
        self.same(renamed_web(EMPTY, ()), EMPTY)
