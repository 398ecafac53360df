"""[11], [85] to [90], [92]: secrets, clients, workers, what a worker sees, blind runs."""

import itertools
import random

from lookundone.blindruns import asked_turns, blind_table
from lookundone.clients import Client
from lookundone.errors import NotDone, NotReady
from lookundone.likeness import alike, square_of
from lookundone.plansums import map_of
from lookundone.products import added
from lookundone.rightaccounts import right_account
from lookundone.scaling import scaled
from lookundone.secrets import is_secrets, sent_turns
from lookundone.seenby import secrets_for, sent_sum
from lookundone.shifting import on_plus
from lookundone.tables import one_table
from lookundone.workers import Worker
from tests.common import ANY_VALUES, EMPTY, LINE, NEVER, PLUS, ROW, TRI, StrictCase, wrong_places
from tests.flow_oracles import parts_of
from tests.oracles import is_in_one_form, product, root_power, total, unit_parts, worths
from tests.program_oracles import all_bits
from tests.some_webs import some_web, some_webs
from tests.test_machines import NO_BITS
from tests.test_rightaccounts import FLOW, FLOWS, LINE_FLOW, PLAN

SECRETS = ((3, 1), (0, 0))
LINE_SECRETS = ((3, 1), (0, 0), (7, 1))
NO_TURNS = (None, True, False, -1, 8, 10 ** 30, "1", "", (), (1,), [])
SMALL = [(plan, flow) for plan, flow in FLOWS if len(flow) <= 3]


def some_secrets(chance, many):
    return tuple((chance.randint(0, 7), chance.randint(0, 1)) for _ in range(many))


def kept_orders(web, flow):
    """All orders that keep the arrows of the flow."""
    looked, _ = parts_of(web)
    lots = dict(flow)
    for order in itertools.permutations(looked):
        if all(order.index(dot) < order.index(other) for dot in looked for other in lots[dot] if other in looked):
            yield order


class Shadow:
    """What a client is to answer, told by the words of the document."""

    def __init__(self, plan, flow, secrets):
        (dots, _, _, outs), angles = plan
        self.account = right_account(plan, flow)
        self.looked = [dot for dot in dots if dot not in outs]
        self.waits = dict(zip(self.looked, self.account[2]))
        self.angles = dict(zip(dots, angles))
        self.secrets = dict(zip(self.looked, secrets))
        self.heard = {}

    def left(self):
        return tuple(dot for dot in self.looked if dot not in self.heard)

    def ready(self):
        return tuple(dot for dot in self.left() if set(self.waits[dot]) <= set(self.heard))

    def odd(self, lot):
        return sum(self.heard[dot] + self.secrets[dot][1] for dot in lot) % 2

    def asks(self, dot):
        turn, bit = self.secrets[dot]
        return ((-self.angles[dot] if self.odd(self.waits[dot]) else self.angles[dot]) + turn + 4 * bit) % 8

    def ended(self):
        web, _, _, flips, signs = self.account
        return (
            tuple(self.odd(lot) for lot in flips), tuple(self.odd(lot) for lot in signs),
            tuple(-self.angles[out] % 8 for out in web[3]),
        )


class SecretsTest(StrictCase):
    def test_any_values(self):
        for thing in ANY_VALUES + (
            SECRETS, list(SECRETS), SECRETS[:1], SECRETS + ((0, 0),), ([3, 1], (0, 0)), ((3, 1), (0, 2)), ((8, 1), (0, 0)),
            ((-1, 1), (0, 0)), ((3, True), (0, 0)), ((True, 1), (0, 0)), ((3, 1), (False, 0)), ((3, 1), (0, False)),
            ((3,), (0,)), ((3, 1, 0), (0, 0)), (3, 1), ("31", "00"), ((3, None), (0, 0)), (("3", 1), (0, 0)), ((3, 1), None),
        ):
            for web in (ROW, EMPTY, LINE):
                many = len(parts_of(web)[0])
                is_one = type(thing) is tuple and len(thing) == many and all(
                    type(pair) is tuple and len(pair) == 2 and type(pair[0]) is int and type(pair[1]) is int
                    and pair[0] in range(8) and pair[1] in (0, 1)
                    for pair in thing
                )
                self.assertIs(is_secrets(web, thing), is_one, thing)
                if is_one:
                    self.same(sent_turns(web, thing), tuple(pair[0] for pair in thing))
                else:
                    self.refuses("secrets", sent_turns, web, thing)

    def test_some(self):
        self.assertIs(is_secrets(ROW, SECRETS), True)
        self.assertIs(is_secrets(EMPTY, ()), True)
        self.same(sent_turns(ROW, SECRETS), (3, 0))
        self.same(sent_turns(EMPTY, ()), ())
        for wrong in wrong_places(SECRETS, (None, True, False, 8, -1, "", (), (0, 2), [0, 0])):
            self.assertIs(is_secrets(ROW, wrong), False, wrong)


class ClientTest(StrictCase):
    def answers(self, client, shadow):
        """All that the client answers now, compared with its shadow."""
        self.same(client.sends(), tuple((dot, shadow.secrets[dot][0]) for dot in shadow.looked))
        self.same(client.left(), shadow.left())
        self.same(client.ready(), shadow.ready())
        for dot in shadow.looked:
            if dot in shadow.ready():
                self.same(client.asks(dot), shadow.asks(dot))
                self.same(client.asks(dot), shadow.asks(dot))
            else:
                self.raises(NotReady, {"dot": dot}, client.asks, dot)
                self.raises(NotReady, {"dot": dot}, client.hears, dot, 0)
                self.raises(NotReady, {"dot": dot}, client.hears, dot, 1)
        for out in shadow.account[0][3]:
            self.refuses("dot", client.asks, out)
            self.refuses("dot", client.hears, out, 0)
        if shadow.left():
            self.raises(NotDone, {"dots": shadow.left()}, client.ended)
        else:
            self.same(client.ended(), shadow.ended())
            self.same(client.ended(), shadow.ended())

    def test_runs(self):
        chance = random.Random(87)
        for plan, flow in FLOWS:
            secrets = some_secrets(chance, len(flow))
            client, shadow = Client(plan, flow, secrets), Shadow(plan, flow, secrets)
            self.answers(client, shadow)
            while shadow.left():
                dot, bit = chance.choice(shadow.ready()), chance.randint(0, 1)
                self.assertIsNone(client.hears(dot, bit))
                shadow.heard[dot] = bit
                self.answers(client, shadow)

    def test_bits_in_the_secrets(self):
        for bits in itertools.product((0, 1), repeat=3):
            for heard in itertools.product((0, 1), repeat=3):
                secrets = tuple((k + 3, bit) for k, bit in enumerate(bits))
                plan = (LINE, (1, 3, 6, 5))
                client, shadow = Client(plan, LINE_FLOW, secrets), Shadow(plan, LINE_FLOW, secrets)
                for dot, bit in enumerate(heard):
                    client.hears(dot, bit)
                    shadow.heard[dot] = bit
                    self.answers(client, shadow)

    def test_two_clients_by_turns(self):
        one, other = Client(PLAN, FLOW, SECRETS), Client(PLAN, FLOW, ((0, 0), (5, 1)))
        one_shadow, other_shadow = Shadow(PLAN, FLOW, SECRETS), Shadow(PLAN, FLOW, ((0, 0), (5, 1)))
        for dot in (0, 1):
            one.hears(dot, 1)
            one_shadow.heard[dot] = 1
            self.answers(one, one_shadow)
            self.answers(other, other_shadow)
            other.hears(bit=0, dot=dot)
            other_shadow.heard[dot] = 0
            self.answers(one, one_shadow)
            self.answers(other, other_shadow)

    def test_some(self):
        client = Client((EMPTY, ()), (), ())
        self.same((client.sends(), client.left(), client.ready(), client.ended()), ((), (), (), ((), (), ())))
        client = Client(secrets=SECRETS, plan=PLAN, flow=FLOW)
        self.same(client.asks(dot=0), 0)
        self.raises(NotReady, {"dot": 1}, client.asks, 1)
        self.raises(NotDone, {"dots": (0, 1)}, client.ended)
        client.hears(0, 0)
        self.raises(NotReady, {"dot": 0}, client.hears, 0, 0)
        self.raises(NotReady, {"dot": 0}, client.asks, 0)
        self.raises(NotDone, {"dots": (1,)}, client.ended)

    def test_wrong_parameters(self):
        no_plans = NEVER + (ROW, (ROW, (0, 0)), (ROW, [0, 0, 0]), [ROW, (0, 0, 0)], (ROW, (0, 0, True)), (ROW, (0, 0, 8)))
        for plan in no_plans:
            self.refuses("plan", Client, plan, FLOW, SECRETS)
            self.refuses("plan", Client, plan, None, None)
        for flow in NEVER + (list(FLOW), FLOW[:1], FLOW[::-1], ((0, [1]), (1, (2,))), ((False, (1,)), (1, (2,)))):
            self.refuses("flow", Client, PLAN, flow, SECRETS)
            self.refuses("flow", Client, PLAN, flow, None)
        for secrets in wrong_places(SECRETS, (None, True, False, 8, -1, "", (), (0, 2), [0, 0])):
            self.refuses("secrets", Client, PLAN, FLOW, secrets)
        for secrets in ANY_VALUES + (LINE_SECRETS,):
            self.refuses("secrets", Client, PLAN, FLOW, secrets)

    def test_wrong_dots_and_bits(self):
        client, shadow = Client(PLAN, FLOW, SECRETS), Shadow(PLAN, FLOW, SECRETS)
        for dot in ANY_VALUES + (2, 3, 9999, 10000, [0]):
            if not isinstance(dot, int) or isinstance(dot, bool) or dot not in (0, 1):
                self.refuses("dot", client.asks, dot)
                for bit in NO_BITS + (0, 1):
                    self.refuses("dot", client.hears, dot, bit)
        for bit in NO_BITS:
            self.refuses("bit", client.hears, 0, bit)
            self.refuses("bit", client.hears, 1, bit)
        self.answers(client, shadow)


class WorkerTest(StrictCase):
    def held_plainly(self, web, sent, looks):
        """The worths of all dots left, each told as a sum over all lots of the dots that are gone."""
        dots, ties, _, outs = web
        looked = [dot for dot in dots if dot not in outs]
        turns = dict(zip(looked, sent))
        gone = {dot: (turn + 4 * bit) for dot, turn, bit in looks}
        left = [dot for dot in dots if dot not in gone]
        rows = []
        for y in range(2 ** len(left)):
            parts = []
            for bits in itertools.product((0, 1), repeat=len(gone)):
                worth = {dot: y >> k & 1 for k, dot in enumerate(left)}
                worth.update(zip(gone, bits))
                turn = sum(4 for one, other in ties if worth[one] and worth[other])
                turn += sum(turns[dot] for dot in looked if worth[dot])
                turn -= sum(gone[dot] for dot in gone if worth[dot])
                parts.append(unit_parts(turn))
            rows.append([product(total(parts), root_power(-len(dots) - len(gone)))])
        return rows

    def answers(self, worker, web, sent, looks):
        """All that the worker holds now, compared with the sums over all lots."""
        looked, _ = parts_of(web)
        done = [dot for dot, _, _ in looks]
        left = tuple(dot for dot in looked if dot not in done)
        self.same(worker.left(), left)
        table = worker.held()
        self.same(worker.held(), table)
        self.assertEqual(table[:2], (len(web[0]) - len(done), 0))
        self.assertTrue(is_in_one_form(table))
        self.assertEqual(worths(table), self.held_plainly(web, sent, looks))
        for dot in done:
            self.raises(NotReady, {"dot": dot}, worker.looks, dot, 0, 0)
        for out in web[3]:
            self.refuses("dot", worker.looks, out, 0, 0)
        if left:
            self.raises(NotDone, {"dots": left}, worker.outs_table)
            return
        found = worker.outs_table()
        self.same(worker.outs_table(), found)
        outs, ins, power, rows = found
        self.same((outs, ins), (len(web[3]), 0))
        ascending = sorted(web[3])
        for y in range(2 ** outs):
            at = sum(1 << ascending.index(out) for k, out in enumerate(web[3]) if y >> k & 1)
            self.same(worths(found)[y] == worths(table)[at], True)

    def test_looks_in_any_sequence(self):
        chance = random.Random(88)
        several = 0
        for web in [ROW, TRI, PLUS, LINE, EMPTY] + some_webs(30, 88, 5) + [some_web(chance, 5, 30, 1, 2) for _ in range(6)]:
            looked, _ = parts_of(web)
            sent = tuple(chance.randint(0, 7) for _ in looked)
            worker, looks = Worker(web, sent), []
            self.answers(worker, web, sent, looks)
            for dot in chance.sample(looked, len(looked)):
                looks.append((dot, chance.randint(0, 7), chance.randint(0, 1)))
                self.assertIsNone(worker.looks(*looks[-1]))
                self.answers(worker, web, sent, looks)
            several += list(web[3]) != sorted(web[3])
        self.assertGreater(several, 5)

    def test_squares(self):
        # The square of what is held is one at first; ahead of a look it is the sum of those behind it.
        chance = random.Random(881)
        for web in [ROW, TRI, PLUS, LINE] + some_webs(20, 881, 5):
            looked, _ = parts_of(web)
            sent = tuple(chance.randint(0, 7) for _ in looked)
            looks = []
            self.same(square_of(Worker(web, sent).held()), one_table(0))
            for dot in chance.sample(looked, len(looked)):
                turn = chance.randint(0, 7)
                workers = [Worker(web, sent) for _ in range(3)]
                for worker, more in zip(workers, ([], [(dot, turn, 0)], [(dot, turn, 1)])):
                    for look in looks + more:
                        worker.looks(*look)
                ahead, none, some = [square_of(worker.held()) for worker in workers]
                self.same(added(none, some), ahead)
                looks.append((dot, turn, chance.randint(0, 1)))

    def test_another_sequence_leaves_the_same(self):
        chance = random.Random(882)
        for web in [LINE, TRI] + some_webs(20, 882, 5):
            looked, _ = parts_of(web)
            looks = [(dot, chance.randint(0, 7), chance.randint(0, 1)) for dot in looked]
            found = set()
            for sequence in itertools.islice(itertools.permutations(looks), 6):
                worker = Worker(web, (1,) * len(looked))
                for look in sequence:
                    worker.looks(*look)
                found.add(worker.outs_table())
            self.assertEqual(len(found), 1)

    def test_two_workers_by_turns(self):
        one, other = Worker(LINE, (1, 2, 3)), Worker(LINE, (7, 0, 0))
        one_looks, other_looks = [], []
        for dot in (1, 0, 2):
            one.looks(dot, 5, 1)
            one_looks.append((dot, 5, 1))
            self.answers(one, LINE, (1, 2, 3), one_looks)
            self.answers(other, LINE, (7, 0, 0), other_looks)
            other.looks(bit=0, turn=2, dot=dot)
            other_looks.append((dot, 2, 0))
            self.answers(one, LINE, (1, 2, 3), one_looks)
            self.answers(other, LINE, (7, 0, 0), other_looks)

    def test_dots_that_are_in_and_out(self):
        web = ((3, 4, 8), ((3, 4), (4, 8)), (8, 3), (8, 3))
        worker = Worker(web, (5,))
        self.answers(worker, web, (5,), [])
        worker.looks(4, 2, 1)
        self.answers(worker, web, (5,), [(4, 2, 1)])
        self.answers(Worker(EMPTY, ()), EMPTY, (), [])
        outs = ((3, 4), ((3, 4),), (), (4, 3))
        self.answers(Worker(sent=(), web=outs), outs, (), [])

    def test_eleven_dots(self):
        dots = tuple(range(11))
        web = (dots, tuple(zip(dots, dots[1:])), (0,), (10,))
        worker = Worker(web, (1,) * 10)
        self.same(square_of(worker.held()), one_table(0))
        for dot in reversed(range(10)):
            worker.looks(dot, 3, 0)
        self.same(worker.outs_table(), worker.held())

    def test_wrong_parameters(self):
        for web in NEVER + (list(ROW), ROW[:3], ((1, 0), (), (), ()), ((0,), (), (True,), ()), (ROW, (0, 0, 0))):
            self.refuses("web", Worker, web, (0, 0))
            self.refuses("web", Worker, web, None)
        for sent in ANY_VALUES + ((0,), (0, 0, 0), (0, 8), (8, 0), (0, True), (False, 0), [0, 0], (0, -1), ((0, 0), (1, 1))):
            if repr(sent) != "(0, 1)":
                self.refuses("sent", Worker, ROW, sent)
        worker = Worker(ROW, (0, 1))
        for dot in ANY_VALUES + (2, 3, [0]):
            if not isinstance(dot, int) or isinstance(dot, bool) or dot not in (0, 1):
                self.refuses("dot", worker.looks, dot, 0, 0)
                self.refuses("dot", worker.looks, dot, None, None)
        for turn in NO_TURNS:
            self.refuses("turn", worker.looks, 0, turn, 0)
            self.refuses("turn", worker.looks, 0, turn, None)
        for bit in NO_BITS:
            self.refuses("bit", worker.looks, 0, 0, bit)
        self.answers(worker, ROW, (0, 1), [])
        worker.looks(1, 0, 0)
        # Wrong parameters come ahead of a dot that was looked at before.
        for bit in NO_BITS:
            self.refuses("bit", worker.looks, 1, 0, bit)
        self.answers(worker, ROW, (0, 1), [(1, 0, 0)])


class SeenByTest(StrictCase):
    def test_against_all_secrets(self):
        chance = random.Random(89)
        done = 0
        for plan, flow in SMALL[:40]:
            looked, _ = parts_of(plan[0])
            many = len(looked)
            pairs = list(itertools.product(range(8), (0, 1)))
            for order in itertools.islice(kept_orders(plan[0], flow), 2):
                asked = tuple(chance.randint(0, 7) for _ in looked)
                answers = tuple(chance.randint(0, 1) for _ in looked)
                found = secrets_for(plan, flow, order, asked, answers)
                self.assertEqual(len(found), 2 ** many)
                self.assertEqual(list(found), sorted(set(found)))
                self.assertEqual(len({tuple(bit for _, bit in secrets) for secrets in found}), 2 ** many)
                for secrets in found:
                    self.assertTrue(is_secrets(plan[0], secrets))
                    self.same(asked_turns(plan, flow, order, secrets, answers), asked)
                if many <= 2 or done % 8 == 0:
                    wanted = []
                    for secrets in itertools.product(pairs, repeat=many):
                        if self.asked_plainly(plan, flow, order, secrets, answers) == asked:
                            wanted.append(secrets)
                    self.same(found, tuple(wanted))
                self.same(sent_sum(plan[0], found), scaled(one_table(many), 2 * many))
                done += 1
        self.assertGreater(done, 30)

    def asked_plainly(self, plan, flow, order, secrets, answers):
        shadow = Shadow(plan, flow, secrets)
        asked = []
        for dot, bit in zip(order, answers):
            asked.append(shadow.asks(dot))
            shadow.heard[dot] = bit
        return tuple(asked)

    def test_some(self):
        self.same(secrets_for((EMPTY, ()), (), (), (), ()), ((),))
        self.same(sent_sum(EMPTY, ()), (0, 0, 0, (((0, 0, 0, 0),),)))
        self.same(sent_sum(EMPTY, ((), (), ())), (0, 0, 0, (((3, 0, 0, 0),),)))
        self.same(secrets_for((PLUS, (3, 0)), ((0, (1,)),), (0,), (1,), (0,)), (((2, 1),), ((6, 0),)))

    def sum_plainly(self, web, secrets):
        looked, _ = parts_of(web)
        rows = []
        for y in all_bits(len(looked)):
            row = []
            for x in all_bits(len(looked)):
                # The bits come with the first place last here.
                turns = [
                    sum(turn * (a - b) for (turn, _), a, b in zip(one, reversed(y), reversed(x))) for one in secrets
                ]
                row.append(total([unit_parts(turn) for turn in turns]))
            rows.append(row)
        return rows

    def test_sent_sums(self):
        chance = random.Random(891)
        for web in (EMPTY, PLUS, ROW, LINE, TRI, ((1, 2, 3, 4, 9), ((1, 2),), (4,), (9,))):
            many = len(parts_of(web)[0])
            for count in (0, 1, 2, 5, 64):
                secrets = tuple(some_secrets(chance, many) for _ in range(count))
                if count > 1:
                    secrets = secrets[:-1] + secrets[:1]
                found = sent_sum(web, secrets)
                self.same(found[:2], (many, many))
                self.assertTrue(is_in_one_form(found))
                self.assertEqual(worths(found), self.sum_plainly(web, secrets))

    def test_no_secrets(self):
        good = (SECRETS, SECRETS)
        for secrets in ANY_VALUES + (
            SECRETS, list(good), [SECRETS], (list(SECRETS),), (SECRETS, LINE_SECRETS), (SECRETS, ()), (((3, True), (0, 0)),),
            (((3, 1),),), (SECRETS, None), (((8, 1), (0, 0)),), (([3, 1], (0, 0)),),
        ):
            if secrets != ():
                self.refuses("secrets", sent_sum, ROW, secrets)

    def test_wrong_parameters(self):
        for flow in NEVER + (list(FLOW), FLOW[:1], FLOW[::-1], ((0, [1]), (1, (2,)))):
            self.refuses("flow", secrets_for, PLAN, flow, (0, 1), (0, 0), (0, 0))
            self.refuses("flow", asked_turns, PLAN, flow, (0, 1), SECRETS, (0, 0))
            self.refuses("flow", blind_table, PLAN, flow, None, None, None)
        # The last ones are orders that do not keep the arrows.
        for order in NEVER + ([0, 1], (0,), (0, 1, 2), (0, 0), (False, 1), (0, True), (0, 2), (1, 0)):
            self.refuses("order", secrets_for, PLAN, FLOW, order, (0, 0), (0, 0))
            self.refuses("order", secrets_for, PLAN, FLOW, order, None, None)
            self.refuses("order", asked_turns, PLAN, FLOW, order, SECRETS, (0, 0))
            self.refuses("order", blind_table, PLAN, FLOW, order, None, None)
        for asked in (None, 0, "", "00", (), (0,), (0, 0, 0), [0, 0], (0, 8), (-1, 0), (0, True), (False, 0), (0, "1")):
            self.refuses("asked", secrets_for, PLAN, FLOW, (0, 1), asked, (0, 0))
            self.refuses("asked", secrets_for, PLAN, FLOW, (0, 1), asked, None)
        for secrets in ANY_VALUES + (list(SECRETS), SECRETS[:1], LINE_SECRETS, ((3, 2), (0, 0)), ((3, True), (0, 0))):
            self.refuses("secrets", asked_turns, PLAN, FLOW, (0, 1), secrets, (0, 0))
            self.refuses("secrets", blind_table, PLAN, FLOW, (0, 1), secrets, None)
        for answers in (None, 0, "", "00", (), (0,), (0, 0, 0), [0, 0], (0, 2), (-1, 0), (0, True), (False, 0), (0, "1")):
            self.refuses("answers", secrets_for, PLAN, FLOW, (0, 1), (0, 0), answers)
            self.refuses("answers", asked_turns, PLAN, FLOW, (0, 1), SECRETS, answers)
            self.refuses("answers", blind_table, PLAN, FLOW, (0, 1), SECRETS, answers)


class BlindRunTest(StrictCase):
    def test_asked_turns(self):
        chance = random.Random(90)
        for plan, flow in FLOWS:
            for order in itertools.islice(kept_orders(plan[0], flow), 3):
                secrets = some_secrets(chance, len(flow))
                answers = tuple(chance.randint(0, 1) for _ in flow)
                shadow = Shadow(plan, flow, secrets)
                wanted = []
                for dot, bit in zip(order, answers):
                    wanted.append(shadow.asks(dot))
                    shadow.heard[dot] = bit
                self.same(asked_turns(plan, flow, order, secrets, answers), tuple(wanted))

    def test_blind_tables(self):
        # The map of the plus start, times a unit, over r to the number of looks, whatever the secrets.
        chance = random.Random(901)
        done = 0
        for plan, flow in FLOWS:
            wanted = scaled(on_plus(map_of(plan)), -len(flow))
            for order in itertools.islice(kept_orders(plan[0], flow), 3):
                for _ in range(4):
                    secrets = some_secrets(chance, len(flow))
                    answers = tuple(chance.randint(0, 1) for _ in flow)
                    self.assertIsNotNone(alike(blind_table(plan, flow, order, secrets, answers), wanted))
                    done += 1
        self.assertGreater(done, 300)

    def test_all_secrets_and_answers(self):
        plan = (ROW, (1, 3, 6))
        wanted = scaled(on_plus(map_of(plan)), -2)
        for secrets in itertools.product(itertools.product((0, 3, 6), (0, 1)), repeat=2):
            for answers in all_bits(2):
                found = blind_table(order=(0, 1), plan=plan, answers=answers, secrets=secrets, flow=FLOW)
                self.assertIsNotNone(alike(found, wanted))

    def test_no_looks(self):
        web = ((1, 2), ((1, 2),), (2, 1), (1, 2))
        self.same(asked_turns((web, (3, 0)), (), (), (), ()), ())
        self.same(blind_table((web, (3, 0)), (), (), (), ()), on_plus(map_of((web, (3, 0)))))
        self.same(blind_table((EMPTY, ()), (), (), (), ()), one_table(0))
