"""[91]: desks, line by line."""

import random

from lookundone.backing import circuit_back
from lookundone.bookreader import read_book
from lookundone.booktexts import book_text
from lookundone.circuitbooks import circuit_text
from lookundone.circuitplans import circuit_plan
from lookundone.datatexts import data_text, read_data
from lookundone.desk import Desk
from lookundone.errors import LookError
from lookundone.flattening import flat
from lookundone.flowkinds import arrows_of
from lookundone.layers import fewest_rounds
from lookundone.linear import linear_of
from lookundone.machines import Machine
from lookundone.orders import allowed
from lookundone.plankinds import with_angle
from lookundone.plansums import map_of
from lookundone.plantexts import plan_text, read_plan
from lookundone.settling import flow_of, settle
from lookundone.shortening import shortened
from lookundone.webchanges import toggled
from lookundone.webkinds import looked_of
from tests.common import ANY_VALUES, EMPTY, FAIR, LINE, PLUS, ROW, SEEN, TRI, StrictCase
from tests.some_webs import some_plans
from tests.test_circuits import some_circuit
from tests.test_rightaccounts import FLOWS

FORM = "no: InvalidText"
SCORE = ("part main a b", "  h a # a remark", "", "cx a b", "  turn 3 b", "end")


def load_line(plan):
    return "load " + plan_text(plan).replace("\n", " / ")


def desk_with(plan):
    desk = Desk()
    assert desk.say(load_line(plan)) == f"dots {len(plan[0][0])}"
    return desk


def answer_to(call):
    """What a desk answers where this is asked of it."""
    try:
        return call()
    except LookError as e:
        return f"no: {type(e).__name__}"


def run_plainly(plan, bits):
    web = plan[0]
    flow = flow_of(web)
    machine = Machine(plan, flow, False)
    for dot, bit in zip(linear_of(looked_of(web), arrows_of(web, flow)), bits):
        machine.tell(dot, int(bit))
    return data_text(machine.ended())


class DeskTest(StrictCase):
    def says(self, desk, *pairs):
        for line, answer in pairs:
            self.same(desk.say(line), answer, line)

    def plan_in(self, desk):
        return read_plan(desk.say("plan").replace(" / ", "\n"))

    def test_a_new_desk(self):
        self.says(
            Desk(), ("plan", "web / dots / ties / ins / outs / angles / end"), ("circuit", "no: NotUsable"),
            ("settle", '("flow", ())'), ("map", "(0, 0, 0, (((1, 0, 0, 0),),))"), ("rounds", "0"),
            ("order", '("let", ())'), ("run", "((), (), ())"), ("short", "rules 0 turn 0"), ("undo", "no: NotDone"),
            ("top main", answer_to(lambda: flat(read_book(""), "main"))), ("angle 0 0", "no: NotUsable"),
            ("tie 0 1", "no: NotUsable"), ("order 0", "no: NotUsable"), ("run 0", FORM),
        )

    def test_book_and_top(self):
        desk = Desk()
        for k, line in enumerate(SCORE):
            self.same(desk.say(f"book {line}"), f"lines {k + 1}")
        plan = circuit_plan(flat(read_book("\n".join(SCORE)), "main"))
        self.says(desk, ("top main", f"dots {len(plan[0][0])}"))
        self.same(self.plan_in(desk), plan)
        # The lines stay, more come behind them.
        self.says(
            desk, ("book part id c", "lines 7"), ("book end", "lines 8"), ("top id", "dots 1"), ("  top   main  ", "dots 5"),
            ("top none", "no: NotUsable"), ("top end", "no: NotUsable"), ("top main id", FORM), ("top", FORM), ("top  ", FORM),
            ("top MAIN", "no: NotUsable"), ("top main#", "no: NotUsable"), ("topmain", FORM),
        )
        self.same(self.plan_in(desk), plan)

    def test_book_without_rest(self):
        desk = Desk()
        self.says(
            desk, ("book", "lines 1"), ("book   ", "lines 2"), ("   book", "lines 3"), ("book part p a", "lines 4"),
            ("book", "lines 5"), ("book end", "lines 6"), ("top p", "dots 1"),
        )
        # All behind the first word and its blanks is the line, blanks within it, too.
        self.says(desk, ("book   part   q  y[2]  ", "lines 7"), ("book    h  y[1]", "lines 8"), ("book end", "lines 9"))
        self.says(desk, ("top q", "dots 3"))

    def test_scores_that_do_not_read(self):
        desk = Desk()
        self.says(desk, ("book part p a", "lines 1"), ("top p", FORM), ("book h b", "lines 2"), ("top p", FORM))
        self.says(desk, ("book end", "lines 3"), ("top p", answer_to(lambda: flat(read_book("part p a\nh b\nend"), "p"))))
        self.assertEqual(desk.say("top p"), "no: BadScore")
        self.says(desk, ("book part", "lines 4"), ("top p", FORM), ("undo", "done"), ("top p", "no: BadScore"))
        self.same(self.plan_in(desk), (EMPTY, ()))
        wide = Desk()
        self.says(wide, ("book part p a[4] b[3]", "lines 1"), ("book end", "lines 2"))
        self.same(wide.say("top p"), answer_to(lambda: flat(read_book("part p a[4] b[3]\nend"), "p")))

    def test_scores_of_circuits(self):
        chance = random.Random(91)
        for k in range(12):
            circuit = some_circuit(chance, 1 + k % 3, 10)
            desk = Desk()
            for line in circuit_text(circuit).split("\n"):
                desk.say("book " + line)
            plan = circuit_plan(circuit)
            self.says(desk, ("top main", f"dots {len(plan[0][0])}"))
            self.same(self.plan_in(desk), plan)
            text = desk.say("circuit").replace(" / ", "\n")
            self.same(flat(read_book(text), "main"), circuit_back(plan))
            self.same(book_text(read_book(text)), text)

    def test_load(self):
        for plan in some_plans(30, 911, 6) + [(ROW, (1, 2, 3)), (EMPTY, ())]:
            desk = desk_with(plan)
            self.same(self.plan_in(desk), plan)
            self.same(desk.say("plan"), plan_text(plan).replace("\n", " / "))
        desk = desk_with((ROW, (1, 2, 3)))
        for line in (
            "load", "load ", "load web", "load x", "load web / dots 0", "load web/dots 0/ties/ins 0/outs 0/angles 1/end",
            "load web / dots 0 / ties / ins 0 / outs 0 / angles 8 / end", "load web / dots 0 / ties / ins 0 / outs 0 / end",
            "load web / dots 0 / ties / ins 0 / outs 0 / angles 1 / end /", "load web  / dots / ties / ins / outs / angles / end",
            "load web /  dots / ties / ins / outs / angles / end", "load / web / dots / ties / ins / outs / angles / end",
        ):
            self.says(desk, (line, FORM))
        self.same(self.plan_in(desk), (ROW, (1, 2, 3)))
        self.says(desk, ("   load    web / dots 7 / ties / ins 7 / outs 7 / angles 1 / end   ", "dots 1"))
        self.same(self.plan_in(desk), (((7,), (), (7,), (7,)), (1,)))

    def test_angle_and_tie(self):
        plan = (((0, 3, 9999), ((0, 3),), (0,), (3,)), (1, 2, 3))
        desk = desk_with(plan)
        for line, call in (
            ("angle 3 7", lambda plan: with_angle(plan, 3, 7)), ("angle  9999   0 ", lambda plan: with_angle(plan, 9999, 0)),
            ("tie 0 3", lambda plan: (toggled(plan[0], 0, 3), plan[1])), ("tie 9999 3", lambda plan: (toggled(plan[0], 3, 9999), plan[1])),
            ("angle 0 0", lambda plan: with_angle(plan, 0, 0)), ("tie 0 3", lambda plan: (toggled(plan[0], 0, 3), plan[1])),
        ):
            plan = call(plan)
            self.says(desk, (line, "done"))
            self.same(self.plan_in(desk), plan)
        for line in (
            "angle", "angle 3", "angle 3 1 1", "angle 3 a", "angle a 3", "angle 03 1", "angle 3 01", "angle 00 0", "angle 3 -1",
            "angle 10000 1", "angle 3 10000", "angle 00003 1", "angle +3 1", "angle 3,1", "angle 3 1.", "angle 3 \t1",
            "tie", "tie 0", "tie 0 3 9999", "tie 0-3", "tie 0 a", "tie 00 3", "tie 0 03", "tie 0 10000", "tie 0 99999", "Tie 0 3",
            "ANGLE 3 1", "angles 3 1", "angle3 1", "ties 0 3",
        ):
            self.says(desk, (line, FORM))
        for line in ("angle 1 1", "angle 3 8", "angle 3 9999", "angle 9998 0", "tie 0 1", "tie 1 0", "tie 0 0", "tie 3 3"):
            self.says(desk, (line, "no: NotUsable"))
        self.same(self.plan_in(desk), plan)

    def test_short(self):
        for plan in some_plans(40, 912, 6):
            desk = desk_with(plan)
            short, rules, turn = shortened(plan)
            self.says(desk, ("short x", FORM), ("short", f"rules {len(rules)} turn {turn}"))
            self.same(self.plan_in(desk), short)
            self.says(desk, (" short ", "rules 0 turn 0"))
        desk = desk_with((LINE, (1, 6, 2, 5)))
        self.says(desk, ("short", "rules 1 turn 1"), ("short", "rules 0 turn 0"), ("undo", "done"), ("short", "rules 1 turn 1"))

    def test_undo(self):
        desk = Desk()
        self.says(desk, ("undo", "no: NotDone"), ("book part p a", "lines 1"), ("undo", "done"), ("undo", "no: NotDone"))
        self.says(desk, ("book part p a", "lines 1"), ("book end", "lines 2"), ("top p", "dots 1"), ("angle 0 3", "done"))
        # Lines that are refused, that ask, and that change nothing are not taken back.
        self.says(desk, ("angle 0 9", "no: NotUsable"), ("map x", FORM), ("angle 0 3", "done"), ("plan", desk.say("plan")))
        self.says(desk, ("short", "rules 0 turn 0"), (load_line((((0,), (), (0,), (0,)), (3,))), "dots 1"), ("tie 0 0", "no: NotUsable"))
        self.same(self.plan_in(desk)[1], (3,))
        self.says(desk, ("undo", "done"))
        self.same(self.plan_in(desk)[1], (0,))
        self.says(desk, ("undo x", FORM), ("undo undo", FORM), ("undo", "done"))
        self.same(self.plan_in(desk), (EMPTY, ()))
        # What was taken back is gone: the next undo goes further back.
        self.says(desk, ("book end", "lines 3"), ("undo", "done"), ("top p", "dots 1"), ("undo", "done"), ("undo", "done"))
        self.says(desk, ("top p", FORM), ("book end", "lines 2"), ("top p", "dots 1"), ("top p", "dots 1"))
        self.says(desk, ("undo", "done"), ("undo", "done"), ("undo", "done"), ("undo", "no: NotDone"), ("book", "lines 1"))

    def test_undo_of_all_lines(self):
        chance = random.Random(913)
        lines = (
            "book part p a b", "book end", "book", "top p", "angle 0 1", "angle 1 2", "tie 0 1", "short", "undo", "undo",
            load_line((ROW, (0, 2, 0))), load_line((LINE, (1, 4, 0, 5))), "angle 9 9", "plan", "order 0 1",
        )
        for _ in range(40):
            desk, past = Desk(), [((), (EMPTY, ()))]
            for _ in range(30):
                line = chance.choice(lines)
                answer = desk.say(line)
                if line == "undo":
                    self.assertEqual(answer, "done" if len(past) > 1 else "no: NotDone")
                    past = past[:-1] or past
                else:
                    book, plan = past[-1]
                    if line.startswith("book"):
                        book += (line[4:].strip(" "),)
                        self.assertEqual(answer, f"lines {len(book)}")
                    now = book, self.plan_in(desk)
                    if now != past[-1]:
                        self.assertFalse(answer.startswith("no:"))
                        past.append(now)
                self.same(self.plan_in(desk), past[-1][1])

    def test_plan_and_circuit(self):
        for plan, _ in FLOWS[:30]:
            desk = desk_with(plan)
            self.says(desk, ("plan", plan_text(plan).replace("\n", " / ")), ("plan x", FORM), ("circuit x", FORM))
            wanted = answer_to(lambda: circuit_text(circuit_back(plan)).replace("\n", " / "))
            self.says(desk, ("circuit", wanted if plan != (EMPTY, ()) else "no: NotUsable"))
        self.says(desk_with((ROW, (0, 2, 0))), ("circuit", "part main q[1] /   h q[0] /   turn 6 q[0] /   h q[0] / end"))
        self.says(desk_with((PLUS, (0, 0))), ("circuit", "no: NotEven"))
        self.says(desk_with((TRI, (0, 0, 0))), ("circuit", "no: NoFlow"))
        self.says(desk_with((((4,), (), (), ()), (0,))), ("circuit", "no: NoFlow"))

    def test_what_data_text_tells(self):
        for web in (ROW, TRI, PLUS, LINE, FAIR, SEEN, EMPTY):
            plan = (web, tuple(k % 8 for k in range(len(web[0]))))
            desk = desk_with(plan)
            self.says(
                desk, ("settle", data_text(settle(web))), ("map", data_text(map_of(plan))),
                ("rounds", answer_to(lambda: data_text(fewest_rounds(web)))), ("settle x", FORM), ("map 0", FORM),
                ("rounds -", FORM),
            )
            self.same(read_data(desk.say("settle")), settle(web))
            looked = looked_of(web)
            for order in (looked, looked[::-1], looked[:-1], (*looked, 0), (9999,), ()):
                line = " ".join(["order", *map(str, order)])
                self.says(desk, (line, answer_to(lambda: data_text(allowed(web, order)))))

    def test_order(self):
        desk = desk_with((ROW, (0, 0, 0)))
        self.says(
            desk, ("order 1 0", '("barred", 1, (0,))'), ("order  0   1 ", '("let", ((1,), (2,)))'), ("order", "no: NotUsable"),
            ("order 0", "no: NotUsable"), ("order 0 0", "no: NotUsable"), ("order 0 2", "no: NotUsable"), ("order 0 1 1", "no: NotUsable"),
            ("order 0 01", FORM), ("order 0 a", FORM), ("order 0,1", FORM), ("order 0 10000", FORM), ("order 0 -1", FORM),
            ("order 0 9999", "no: NotUsable"), ("order (0, 1)", FORM),
        )

    def test_run(self):
        for plan, _ in FLOWS[:40]:
            if settle(plan[0])[0] == "flow":
                desk = desk_with(plan)
                many = len(looked_of(plan[0]))
                for number in range(min(2 ** many, 8)):
                    bits = "".join(str(number >> k & 1) for k in range(many))
                    self.says(desk, (f"run {bits}", run_plainly(plan, bits)))
        desk = desk_with((ROW, (1, 2, 0)))
        self.says(
            desk, ("run 10", "((0,), (1,), (0,))"), ("run   01 ", "((1,), (0,), (0,))"), ("run", FORM), ("run 1", FORM), ("run 101", FORM),
            ("run 1 0", FORM), ("run 12", FORM), ("run ab", FORM), ("run 1-", FORM), ("run10", FORM), ("run 10 1", FORM), ("RUN 10", FORM),
        )
        # No flow, and bits in order.
        self.says(desk_with((TRI, (0, 0, 0))), ("run 00", "no: NoFlow"), ("run 0", FORM), ("run 02", FORM), ("run", FORM))
        outs = desk_with((((3, 4), ((3, 4),), (), (4, 3)), (1, 2)))
        self.says(outs, ("run", "((0, 0), (0, 0), (6, 7))"), ("run 0", FORM), ("run  ", "((0, 0), (0, 0), (6, 7))"))

    def test_other_lines(self):
        desk = desk_with((ROW, (1, 2, 0)))
        for line in (
            "", " ", "   ", "x", "help", "plan plan", "Plan", "PLAN", "plan.", "plans", "undoing", "no: InvalidText", "/", "#", "0",
            "short 1", "settle settle", "say plan", "loads web", "booking", "bookpart p a", "-", "plan /",
        ):
            self.says(desk, (line, FORM))
        self.same(self.plan_in(desk), (ROW, (1, 2, 0)))
        self.says(desk, ("  plan", desk.say("plan")), ("plan   ", desk.say("plan")), ("  rounds  ", "2"))

    def test_no_lines(self):
        desk = desk_with((ROW, (1, 2, 0)))
        for line in ANY_VALUES + (["plan"], ("plan",), b"plan"):
            if not isinstance(line, str):
                self.refuses("line", desk.say, line)
                self.refuses("line", desk.say, line=line)
        self.same(self.plan_in(desk), (ROW, (1, 2, 0)))
        self.says(desk, ("undo", "done"), ("undo", "no: NotDone"))
        self.same(desk.say(line="rounds"), "0")

    def test_two_desks_by_turns(self):
        one, other = Desk(), Desk()
        self.says(one, ("book part p a", "lines 1"))
        self.says(other, ("book part q a b", "lines 1"))
        self.says(one, ("book end", "lines 2"), ("top p", "dots 1"))
        self.says(other, ("top q", FORM), ("book end", "lines 2"), ("undo", "done"), ("book end", "lines 2"), ("top q", "dots 2"))
        self.says(one, ("undo", "done"), ("plan", "web / dots / ties / ins / outs / angles / end"))
        self.says(other, ("plan", "web / dots 0 1 / ties / ins 0 1 / outs 0 1 / angles 0 0 / end"))
