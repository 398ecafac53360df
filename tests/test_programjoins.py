"""[43], [44]: programs of programs, and the texts of programs."""

import random
import re

from lookundone.branches import branch_of
from lookundone.errors import InvalidPaper, InvalidRow, InvalidText
from lookundone.products import chained, side_by_side
from lookundone.programchecker import is_program, lets_program
from lookundone.programjoins import beside_programs, chained_programs, renamed_program
from lookundone.programkinds import dots_of, looks_of
from lookundone.programtexts import program_text, read_program
from tests.common import ALL_SIGNS, STEP, TWICE, StrictCase
from tests.program_oracles import all_bits, fault_plainly
from tests.some_programs import some_program, some_programs

NOTHING = ((), (), (), ())
ONE_DOT = ((4,), (4,), (), (3,))
PROGRAMS = [STEP, TWICE, NOTHING, ONE_DOT, ((5, 0), (0, 5), (), (7, 3))] + some_programs(40, 43, looks=2, widest=3)


def with_numbers(program, numbers):
    """The program with other numbers, told by what stands where in it."""
    def changed(thing, is_dot):
        if isinstance(thing, tuple):
            return tuple(changed(part, is_dot) for part in thing)
        return numbers[thing] if is_dot else thing
    commands = []
    for word, *rest in program[2]:
        if word == "tie":
            commands.append((word, *sorted(numbers[dot] for dot in rest)))
        elif word == "look":
            dot, turn, *lots = rest
            commands.append((word, numbers[dot], turn, *[tuple(sorted(changed(lot, True))) for lot in lots]))
        else:
            lots = [tuple(sorted(changed(lot, True))) for lot in rest[1:]]
            commands.append((word, numbers[rest[0]], *lots))
    return changed(program[0], True), changed(program[1], True), tuple(commands), program[3]


def behind(first, second, known):
    """The new numbers of the dots of second behind those of first."""
    numbers = dict(known)
    least = max(dots_of(first)) + 1 if dots_of(first) else 0
    for dot in dots_of(second):
        if dot not in numbers:
            numbers[dot] = least
            least += 1
    return numbers


def turned_by_nothing(program):
    return (*program[:3], (0,) * len(program[1]))


class ChainedTest(StrictCase):
    def test_chained(self):
        done = 0
        for first in map(turned_by_nothing, PROGRAMS):
            for second in PROGRAMS:
                if len(first[1]) != len(second[0]):
                    self.refuses("second", chained_programs, first, second)
                    continue
                found = chained_programs(first, second)
                numbers = behind(first, second, zip(second[0], first[1]))
                _, outs, commands, turns = with_numbers(second, numbers)
                self.same(found, (first[0], outs, first[2] + commands, turns))
                self.assertTrue(is_program(found))
                done += 1
        self.assertGreater(done, 100)

    def test_branches(self):
        done = 0
        for first in map(turned_by_nothing, PROGRAMS):
            for second in PROGRAMS[::3]:
                if len(first[1]) == len(second[0]):
                    both = chained_programs(first, second)
                    for outcomes in all_bits(len(looks_of(first)))[::2]:
                        for others in all_bits(len(looks_of(second)))[1::2]:
                            wanted = chained(branch_of(first, outcomes), branch_of(second, others))
                            self.same(branch_of(both, outcomes + others), wanted)
                            done += 1
        self.assertGreater(done, 50)

    def test_some(self):
        self.same(chained_programs(STEP, STEP), (
            (0,), (2,),
            STEP[2] + (("new", 2), ("tie", 1, 2), ("look", 1, 7, (), ()), ("flip", 2, (1,))),
            (0,),
        ))
        # The out of first is 0, below all else.
        back = ((7,), (0,), (("new", 0), ("tie", 0, 7), ("look", 7, 1, (), ()), ("sign", 0, (7,))), (0,))
        self.same(chained_programs(back, STEP)[2][4:], (
            ("new", 8), ("tie", 0, 8), ("look", 0, 7, (), ()), ("flip", 8, (0,)),
        ))
        # A dot that is in and out of second.
        self.same(chained_programs(turned_by_nothing(STEP), ((9,), (9,), (("sign", 9, ()),), (5,))),
                  ((0,), (1,), STEP[2] + (("sign", 1, ()),), (5,)))
        through = ((3, 8), (8, 2), (("new", 2), ("tie", 3, 8), ("look", 3, 1, (), ()), ("sign", 8, (3,))), (1, 2))
        self.same(chained_programs(((4, 1), (1, 4), (), (0, 0)), through), (
            (4, 1), (4, 5), (("new", 5), ("tie", 1, 4), ("look", 1, 1, (), ()), ("sign", 4, (1,))), (1, 2),
        ))

    def test_first_without_dots(self):
        second = ((), (8,), (("new", 9), ("new", 8), ("tie", 8, 9), ("look", 9, 1, (), ())), (7,))
        self.same(chained_programs(NOTHING, second), (
            (), (0,), (("new", 1), ("new", 0), ("tie", 0, 1), ("look", 1, 1, (), ())), (7,),
        ))
        self.same(chained_programs(NOTHING, NOTHING), NOTHING)

    def test_lots_and_ties_are_put_in_sequence(self):
        first = ((9, 3, 5), (3, 9, 5), (), (0, 0, 0))
        second = (
            (0, 1, 2), (2,),
            (("tie", 0, 1), ("look", 0, 0, (), ()), ("look", 1, 0, (0,), ()), ("flip", 2, (0, 1)), ("sign", 2, (0, 1))),
            (0,),
        )
        self.same(chained_programs(first, second)[2], (
            ("tie", 3, 9), ("look", 3, 0, (), ()), ("look", 9, 0, (3,), ()), ("flip", 5, (3, 9)), ("sign", 5, (3, 9)),
        ))
        other = ((9, 3, 5), (9, 3, 5), (), (0, 0, 0))
        self.same(chained_programs(other, second)[2], (
            ("tie", 3, 9), ("look", 9, 0, (), ()), ("look", 3, 0, (9,), ()), ("flip", 5, (3, 9)), ("sign", 5, (3, 9)),
        ))

    def test_first_with_turns(self):
        for turn in range(1, 8):
            first = (*STEP[:3], (turn,))
            for second in (STEP, NOTHING, None, [], ONE_DOT):
                self.refuses("first", chained_programs, first, second)
        two = ((0, 1), (1, 0), (), (0, 3))
        self.refuses("first", chained_programs, two, STEP)
        self.refuses("first", chained_programs, second=STEP, first=two)
        self.refuses("second", chained_programs, (*two[:3], (0, 0)), STEP)


class BesideTest(StrictCase):
    def test_beside(self):
        for low in PROGRAMS:
            for high in PROGRAMS:
                ins, outs, commands, turns = with_numbers(high, behind(low, high, {}))
                found = beside_programs(low, high)
                self.same(found, (low[0] + ins, low[1] + outs, low[2] + commands, low[3] + turns))
                self.assertTrue(is_program(found))

    def test_branches(self):
        for low in PROGRAMS[:12]:
            for high in PROGRAMS[4::6]:
                both = beside_programs(low, high)
                for outcomes in all_bits(len(looks_of(low)))[:2]:
                    for others in all_bits(len(looks_of(high)))[-2:]:
                        wanted = side_by_side(branch_of(low, outcomes), branch_of(high, others))
                        if len(both[0]) <= 4:
                            self.same(branch_of(both, outcomes + others), wanted)

    def test_some(self):
        self.same(beside_programs(STEP, STEP), (
            (0, 2), (1, 3),
            STEP[2] + (("new", 3), ("tie", 2, 3), ("look", 2, 7, (), ()), ("flip", 3, (2,))),
            (0, 0),
        ))
        self.same(beside_programs(NOTHING, ONE_DOT), ((0,), (0,), (), (3,)))
        self.same(beside_programs(ONE_DOT, NOTHING), ONE_DOT)
        self.same(beside_programs(ONE_DOT, ONE_DOT), ((4, 5), (4, 5), (), (3, 3)))


class RenamedTest(StrictCase):
    def test_renamed(self):
        chance = random.Random(1)
        for program in PROGRAMS:
            dots = dots_of(program)
            for names in (
                tuple(chance.sample(range(10000), len(dots))), dots, dots[::-1], tuple(range(9999, 9999 - len(dots), -1)),
            ):
                numbers = dict(zip(dots, names))
                found = renamed_program(program, names)
                self.same(found, with_numbers(program, numbers))
                self.assertTrue(is_program(found))
                self.same(renamed_program(found, tuple(old for _, old in sorted(zip(names, dots)))), program)
                outcomes = tuple(chance.randint(0, 1) for _ in looks_of(program))
                self.same(branch_of(found, outcomes), branch_of(program, outcomes))

    def test_names_that_turn_the_sequence_about(self):
        self.same(renamed_program(TWICE, (9, 5, 1))[2], (
            ("new", 5), ("tie", 5, 9), ("look", 9, 1, (), ()), ("new", 1), ("tie", 1, 5), ("look", 5, 2, (9,), (9,)),
            ("flip", 1, (5,)),
        ))
        lots = ((0, 1), (), (("look", 0, 1, (), ()), ("look", 1, 1, (0,), ())), ())
        more = (*lots[:2], (("new", 2), *lots[2], ("look", 2, 0, (0, 1), (0, 1))), ())
        self.same(renamed_program(more, (7, 4, 0))[2][3], ("look", 0, 0, (4, 7), (4, 7)))

    def test_wrong_names(self):
        for names in (
            None, 0, True, "", "abc", [9, 5, 1], (), (9, 5), (9, 5, 1, 0), (9, 9, 1), (9, 5, 5), (9, 5, 10000), (9, 5, -1),
            (9, 5, True), (False, 5, 1), (9, "5", 1), (9, None, 1), ((9,), 5, 1), (9, 5, 1, 1),
        ):
            self.refuses("names", renamed_program, TWICE, names)
        self.refuses("names", renamed_program, NOTHING, (0,))
        self.refuses("names", renamed_program, NOTHING, [])
        self.same(renamed_program(NOTHING, ()), NOTHING)


NUMBER = "(?:0|[1-9][0-9]{0,3})"
ROW_OF = f"(?: {NUMBER})*"
COMMAND = (
    f"new {NUMBER}|tie {NUMBER} {NUMBER}|flip {NUMBER} by{ROW_OF}|sign {NUMBER} by{ROW_OF}"
    f"|look {NUMBER} {NUMBER} waits{ROW_OF} adds{ROW_OF}"
)


def text_fault(text):
    """The line of InvalidText for the text, told by patterns of lines, None if all fit."""
    lines = text.split("\n")
    wanted = "program"
    for k, line in enumerate(lines):
        if wanted == "commands" and re.fullmatch(COMMAND, line):
            continue
        if wanted == "commands":
            wanted = "outs"
        pattern = {
            "program": "program", "ins": f"ins{ROW_OF}", "outs": f"outs{ROW_OF}", "turns": f"turns{ROW_OF}", "end": "end",
        }.get(wanted, "(?!)")
        if not re.fullmatch(pattern, line):
            return k
        wanted = {"program": "ins", "ins": "commands", "outs": "turns", "turns": "end", "end": None}[wanted]
    return None if wanted is None else len(lines)


def program_plainly(text):
    """What a text whose lines fit tells; it may be no program."""
    rows = {}
    commands = []
    for line in text.split("\n"):
        word, *rest = line.split(" ")
        if word in ("ins", "outs", "turns"):
            rows[word] = tuple(map(int, rest))
        elif word in ("new", "tie"):
            commands.append((word, *map(int, rest)))
        elif word in ("flip", "sign"):
            commands.append((word, int(rest[0]), tuple(map(int, rest[2:]))))
        elif word == "look":
            waits, adds = line.partition("waits")[2].split("adds")
            commands.append((word, int(rest[0]), int(rest[1]), tuple(map(int, waits.split())), tuple(map(int, adds.split()))))
    return rows["ins"], rows["outs"], tuple(commands), rows["turns"]


class TextTest(StrictCase):
    def checks(self, text):
        """read_program must return or raise what the patterns tell; returns what was met."""
        line = text_fault(text)
        if line is not None:
            self.raises(InvalidText, {"line": line, "column": 0}, read_program, text)
            return "text"
        wanted = program_plainly(text)
        fault = fault_plainly(wanted)
        if fault is not None:
            self.raises(InvalidRow, {"row": fault[1]}, read_program, text)
            try:
                lets_program(wanted)
            except InvalidPaper as e:
                self.assertEqual(e.at, fault[1])
            return "row"
        found = read_program(text)
        self.same(found, wanted)
        self.same(program_text(found), text)
        return "read"

    def test_each_command(self):
        commands = (
            ("new", 1), ("tie", 0, 1), ("look", 0, 7, (), ()), ("flip", 1, ()), ("flip", 1, (0,)), ("sign", 1, ()),
            ("new", 2), ("look", 1, 0, (0,), ()), ("sign", 2, (0, 1)), ("new", 9999), ("look", 2, 3, (), (0, 1)),
            ("look", 9999, 5, (0, 2), (1,)),
        )
        self.same(program_text(((0, 10), (10,), commands, (6,))), "\n".join([
            "program", "ins 0 10", "new 1", "tie 0 1", "look 0 7 waits adds", "flip 1 by", "flip 1 by 0", "sign 1 by",
            "new 2", "look 1 0 waits 0 adds", "sign 2 by 0 1", "new 9999", "look 2 3 waits adds 0 1",
            "look 9999 5 waits 0 2 adds 1", "outs 10", "turns 6", "end",
        ]))
        self.same(program_text(NOTHING), "program\nins\nouts\nturns\nend")
        self.same(read_program("program\nins\nouts\nturns\nend"), NOTHING)

    def test_there_and_back(self):
        chance = random.Random(5)
        for program in PROGRAMS + [some_program(chance, 6, 12, 20, 90, 10000)]:
            self.assertEqual(self.checks(program_text(program)), "read")
            self.same(read_program(program_text(program)), program)

    def test_each_sign_strange(self):
        for text in (program_text(STEP), program_text(TWICE)):
            for k in range(len(text) + 1):
                self.checks(text[:k])
                self.checks(text[:k] + text[k + 1:])
                for sign in ALL_SIGNS + ["\n"]:
                    self.checks(text[:k] + sign + text[k:])
                    self.checks(text[:k] + sign + text[k + 1:])
                for more in ("00", "10000", "\n\n", "  ", " 0 ", "\nend"):
                    self.checks(text[:k] + more + text[k:])

    def test_words_and_lines(self):
        met = set()
        for text in map(program_text, (STEP, TWICE, PROGRAMS[7])):
            for sign in (" ", "\n"):
                parts = text.split(sign)
                for k in range(len(parts)):
                    for changed in (
                        parts[:k] + parts[k + 1:],
                        parts[:k] + [parts[k]] + parts[k:],
                        parts[:k] + parts[k:k + 2][::-1] + parts[k + 2:],
                        parts[:k] + [""] + parts[k:],
                        parts[:k],
                        *[parts[:k] + [word] + parts[k + 1:] for word in ("", "0", "01", "12345", "by", "waits", "adds", "-1", "x")],
                        *[parts[:k] + [word] + parts[k:] for word in ("0", "01", "12345", "by", "end", "new 3", "flip 0 by")],
                    ):
                        met.add(self.checks(sign.join(changed)))
        self.assertEqual(met, {"text", "row", "read"})

    def test_some_faults(self):
        for text, line in (
            ("", 0), ("\n", 0), ("program", 1), ("program\n", 1), ("program\nins", 2), ("program\nouts", 1), ("programs", 0),
            ("program\nins\nouts", 3), ("program\nins\nouts\nturns", 4), ("program\nins\nouts\nturns\n", 4),
            ("program\nins\nouts\nturns\nend\n", 5), ("program\nins\nouts\nturns\nend\nend", 5), ("program ", 0),
            ("program 1", 0), (" program", 0), ("program\nins 01", 1), ("program\nins  1", 1), ("program\nins 1 ", 1),
            ("program\nins 12345", 1), ("program\nins 00", 1), ("program\nins\nnew", 2), ("program\nins\nnew 1 2", 2),
            ("program\nins\ntie 1", 2), ("program\nins\ntie 0 1 2", 2), ("program\nins\nflip 1", 2),
            ("program\nins\nflip by", 2), ("program\nins\nflip 1 2 by", 2), ("program\nins\nlook 0 1 waits", 2),
            ("program\nins\nlook 0 1 adds waits", 2), ("program\nins\nlook 0 waits adds", 2),
            ("program\nins\nlook 0 1 2 waits adds", 2), ("program\nins\nlook 0 1 waits adds by", 2), ("program\nins\nby", 2),
            ("program\nins\n0", 2), ("program\nins\nouts\nouts", 3), ("program\nins\nouts\nnew 1", 3), ("PROGRAM", 0),
            ("program\nins\nins", 2), ("program\nins\nprogram", 2), ("program\nins\nend", 2), ("program\nins\nturns", 2),
            ("program\nins\nouts\nturns\nend 0", 4), ("program\nins\nlook 0 1 waits adds adds", 2),
            ("program\nins\nlook 0 1 waits waits adds", 2), ("program\nins\nflip 0 by by", 2), ("program\nins -1", 1),
        ):
            self.assertEqual(text_fault(text), line, text)
            self.assertEqual(self.checks(text), "text")

    def test_what_lets_program_refuses(self):
        def text(*commands, ins="ins 0", outs="outs 0", turns="turns 0"):
            return "\n".join(["program", ins, *commands, outs, turns, "end"])
        for told, row in (
            (text("tie 0 1"), 0), (text("new 1", "tie 1 0"), 1), (text("new 0"), 0), (text("look 0 8 waits adds"), 0),
            (text("new 1", "new 2", "flip 1 by 0"), 2), (text("flip 0 by 1 0"), 0), (text("sign 0 by 1 1"), 0),
            (text("new 1"), -1), (text(outs="outs"), -1), (text(turns="turns"), -1), (text(turns="turns 8"), -1),
            (text(turns="turns 0 0"), -1), (text(ins="ins 0 0"), -1), (text(outs="outs 0 0"), -1), (text(ins="ins"), -1),
            (text("look 0 0 waits 0 adds"), 0), (text("new 5", "look 5 1 waits adds", "tie 0 5"), 2),
            (text("new 9999", "sign 9999 by", "look 9999 9999 waits adds"), 2),
        ):
            self.assertEqual(self.checks(told), "row")
            self.raises(InvalidRow, {"row": row}, read_program, told)
        # A text of two hundred lines.
        long = text(*["sign 0 by"] * 195)
        self.assertEqual(self.checks(long), "read")
        self.assertEqual(self.checks(text(*["sign 0 by"] * 194, "new 0")), "row")
