"""How a program is led to its standard program by steps."""

from lookundone.accounts import account_of
from lookundone.errors import need
from lookundone.programchecker import is_program
from lookundone.programkinds import CORRECTIONS
from lookundone.standards import apart_of
from lookundone.steps import program_behind


class Leader:
    """Leads a program, command by command: those taken so far stand as in a standard program.

    The taken ones are the new dots, the ties, the looks, and the flips and signs, of these at most one for each dot;
    they stand ahead of the others, which are as many as rest.
    """

    def __init__(self, program):
        self.program = program
        self.rest = len(program[2])
        self.steps = []

    def do(self, word, place):
        """Do a step, which must fit."""
        self.program = program_behind(self.program, (word, place))
        self.steps.append((word, place))

    def command(self, place):
        """The command at this place, as it is now."""
        return self.program[2][place]

    def taken(self):
        """How many commands are taken."""
        return len(self.program[2]) - self.rest

    def take_next(self):
        """Take the next command to its place."""
        place = self.taken()
        self.rest -= 1
        word = self.command(place)[0]
        if word == "new":
            self.sink_new(place)
        elif word == "tie":
            self.sink_tie(place)
            self.sort_corrections()
        elif word == "look":
            self.sink_look(place)
        else:
            self.sink_correction(place)

    def sink_new(self, place):
        """Lead a new dot to its place."""
        command = self.command(place)
        while place > 0 and (self.command(place - 1)[0] != "new" or self.command(place - 1) > command):
            place -= 1
            self.do("swap", place)

    def sink_tie(self, place):
        """Lead a tie to its place; a flip that it passes leaves a sign behind."""
        tie = self.command(place)
        while place > 0:
            ahead = self.command(place - 1)
            if ahead == tie:
                self.do("cancel", place - 1)
                return
            if ahead[0] == "new" or ahead[0] == "tie" and ahead < tie:
                return
            place -= 1
            self.do("past" if ahead[0] == "flip" and ahead[1] in tie[1:] else "swap", place)

    def sink_look(self, place):
        """Lead a look to its place, with the flip and the sign of its dot taken into it."""
        dot = self.command(place)[1]
        for at in range(place - 1, -1, -1):
            if self.is_correction_at(at) and self.command(at)[1] == dot:
                for behind in range(at, place - 1):
                    self.do("swap", behind)
                place -= 1
                self.do("into", place)
        if self.command(place)[4]:
            self.do("shift", place)
        wanted = self.look_place(place)
        while place > wanted:
            place -= 1
            self.do("swap", place)

    def look_place(self, place):
        """The place of a look in a standard program with the taken looks; it stands behind these now."""
        _, dot, _, waits, _ = self.command(place)
        missing = list(waits)
        for at in range(place):
            command = self.command(at)
            if command[0] == "look":
                if not missing and command[1] > dot:
                    return at
                if command[1] in missing:
                    missing.remove(command[1])
            elif self.is_correction_at(at):
                return at
        return place

    def is_correction_at(self, place):
        """True if a flip or a sign stands at this place."""
        return self.command(place)[0] in CORRECTIONS

    def correction_key(self, place):
        """What the flip or sign at this place is sorted by: its out, flips first; those of other dots come behind."""
        word, dot, _ = self.command(place)
        outs = self.program[1]
        return (outs.index(dot) if dot in outs else len(outs) + dot, word)

    def sort_corrections(self):
        """Lead all flips and signs that are taken to their places."""
        place = 0
        while place < self.taken():
            many = self.taken()
            if self.is_correction_at(place):
                self.sink_correction(place)
            # Where commands went, those behind them have come nearer.
            place += 1 + self.taken() - many

    def sink_correction(self, place):
        """Lead a flip or sign to its place among those ahead of it, and join it with the one that is like it."""
        if self.command(place)[2] == ():
            self.do("drop", place)
            return
        # The looks at the dots of its lot stand ahead of it, so it never comes to the first place.
        key = self.correction_key(place)
        while self.is_correction_at(place - 1) and self.correction_key(place - 1) > key:
            place -= 1
            self.do("swap", place)
        if self.is_correction_at(place - 1) and self.correction_key(place - 1) == key:
            place -= 1
            self.do("join", place)
            if self.command(place)[2] == ():
                self.do("drop", place)


def standard_steps(program):
    """Steps that lead the program to its standard program."""
    leader = Leader(program)
    while leader.rest > 0:
        leader.take_next()
    return tuple(leader.steps)


def led_together(one, other):
    """Steps that lead both programs to one, or where their accounts differ."""
    need(is_program(other), "other")
    difference = apart_of(account_of(one), account_of(other))
    if difference is not None:
        return ("apart", difference)
    return ("led", standard_steps(one), standard_steps(other))
