"""Desks, which keep lines of a score and a plan, and do what lines tell."""

from lookundone.backing import circuit_back
from lookundone.bookreader import read_book
from lookundone.circuitbooks import circuit_text
from lookundone.circuitplans import circuit_plan
from lookundone.datatexts import data_text
from lookundone.errors import BadScore, InvalidText, NoFlow, NotDone, NotEven, NotUsable, need
from lookundone.flattening import flat
from lookundone.flowkinds import flow_arrows
from lookundone.layers import fewest_rounds
from lookundone.linear import linear_order
from lookundone.machines import Machine
from lookundone.orders import allowed
from lookundone.plankinds import with_angle
from lookundone.plansums import map_of
from lookundone.plantexts import number_of_word, plan_text, read_plan
from lookundone.settling import flow_of, settle
from lookundone.shortening import shortened
from lookundone.webchanges import toggled
from lookundone.webkinds import looked_of

NO_PLAN = (((), (), (), ()), ())
LINE_BREAK = " / "
CHANGES = ("book", "top", "load", "angle", "tie", "short")


def need_form(holds):
    """Refuse a line of another form unless what must hold of it holds."""
    if not holds:
        raise InvalidText(0, 0)


def words_of(rest):
    """The words that blanks part."""
    return [word for word in rest.split(" ") if word != ""]


def numbers_of(words):
    """The numbers of these words, each of one to four figures."""
    numbers = [number_of_word(word) for word in words]
    need_form(None not in numbers)
    return numbers


def two_numbers(rest):
    """The two numbers that rest must be."""
    numbers = numbers_of(words_of(rest))
    need_form(len(numbers) == 2)
    return numbers


def on_one_line(text):
    """The text with what stands for its newlines."""
    return text.replace("\n", LINE_BREAK)


def how_many_dots(plan):
    """The answer to a line by which the plan came."""
    return f"dots {len(plan[0][0])}"


def changed(lines, plan, word, rest):
    """The triple of the lines, the plan and the answer behind a line that may change them."""
    if word == "book":
        return ((*lines, rest), plan, f"lines {len(lines) + 1}")
    if word == "top":
        need_form(len(words_of(rest)) == 1)
        new = circuit_plan(flat(read_book("\n".join(lines)), rest))
        return (lines, new, how_many_dots(new))
    if word == "load":
        new = read_plan(rest.replace(LINE_BREAK, "\n"))
        return (lines, new, how_many_dots(new))
    if word == "angle":
        dot, turn = two_numbers(rest)
        return (lines, with_angle(plan, dot, turn), "done")
    if word == "tie":
        one, other = two_numbers(rest)
        return (lines, (toggled(plan[0], one, other), plan[1]), "done")
    need_form(rest == "")
    new, rules, turn = shortened(plan)
    return (lines, new, f"rules {len(rules)} turn {turn}")


def told(plan, word, rest):
    """The answer to a line that changes nothing."""
    web = plan[0]
    if word == "order":
        return data_text(allowed(web, tuple(numbers_of(words_of(rest)))))
    if word == "run":
        return data_text(run_ended(plan, rest))
    need_form(rest == "")
    if word == "plan":
        return on_one_line(plan_text(plan))
    if word == "circuit":
        # A part of a score has at least one wire.
        need(web[0] != (), "circuit")
        return on_one_line(circuit_text(circuit_back(plan)))
    if word == "settle":
        return data_text(settle(web))
    if word == "map":
        return data_text(map_of(plan))
    need_form(word == "rounds")
    return data_text(fewest_rounds(web))


def run_ended(plan, rest):
    """What a machine tells at the end of a run whose looks show the bits of rest."""
    web = plan[0]
    looked = looked_of(web)
    need_form(len(rest) == len(looked) and all(sign in ("0", "1") for sign in rest))
    flow = flow_of(web)
    machine = Machine(plan, flow, False)
    for dot, sign in zip(linear_order(looked, flow_arrows(looked, flow)), rest):
        machine.tell(dot, int(sign))
    return machine.ended()


class Desk:
    """A desk: its lines, its plan, and what they were ahead of each line that changed them."""

    def __init__(self):
        self.lines = ()
        self.plan = NO_PLAN
        self.past = []

    def say(self, line):
        """Do what line tells, and return the answer."""
        need(isinstance(line, str), "line")
        try:
            return self.answer(line)
        except InvalidText:
            return "no: InvalidText"
        except BadScore:
            return "no: BadScore"
        except NotUsable:
            return "no: NotUsable"
        except NotEven:
            return "no: NotEven"
        except NoFlow:
            return "no: NoFlow"
        except NotDone:
            return "no: NotDone"

    def answer(self, line):
        """The answer to the line; errors are raised ahead of any change."""
        word, _, rest = line.strip(" ").partition(" ")
        rest = rest.lstrip(" ")
        if word == "undo":
            need_form(rest == "")
            return self.take_back()
        if word in CHANGES:
            return self.change(word, rest)
        return told(self.plan, word, rest)

    def change(self, word, rest):
        """Do a line that may change lines or plan."""
        lines, plan, text = changed(self.lines, self.plan, word, rest)
        if (lines, plan) != (self.lines, self.plan):
            self.past.append((self.lines, self.plan))
            self.lines = lines
            self.plan = plan
        return text

    def take_back(self):
        """Take back the last line that changed something."""
        if not self.past:
            raise NotDone(())
        self.lines, self.plan = self.past.pop()
        return "done"
