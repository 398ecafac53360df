"""The account of a program, and the names of its looks."""

from lookundone.oddlots import sum_of_lots
from lookundone.programkinds import dots_of
from lookundone.webkinds import looked_of, odd_ties


class Reading:
    """What a program's commands so far come to: names and waits of its looks, flips and signs kept for each dot."""

    def __init__(self):
        self.names = {}
        self.waits = {}
        self.angles = {}
        self.flips = {}
        self.signs = {}
        self.ties = []

    def told(self, lot):
        """The lot told by new outcomes."""
        return sum_of_lots([self.names[dot] for dot in lot])

    def flip_lot(self, dot):
        """The flip lot kept for the dot."""
        return self.flips.get(dot, ())

    def sign_lot(self, dot):
        """The sign lot kept for the dot."""
        return self.signs.get(dot, ())

    def more_flips(self, dot, lot):
        """Add the lot to the flip lot of the dot."""
        self.flips[dot] = sum_of_lots([self.flip_lot(dot), lot])

    def more_signs(self, dot, lot):
        """Add the lot to the sign lot of the dot."""
        self.signs[dot] = sum_of_lots([self.sign_lot(dot), lot])

    def do_tie(self, one, other):
        """Toggle a tie; what flips the one dot signs the other one behind it."""
        self.ties.append((one, other))
        self.more_signs(other, self.flip_lot(one))
        self.more_signs(one, self.flip_lot(other))

    def do_look(self, dot, turn, waits, adds):
        """Give the look at dot its angle, its waits and its name."""
        self.angles[dot] = turn
        self.waits[dot] = sum_of_lots([self.told(waits), self.flip_lot(dot)])
        self.names[dot] = sum_of_lots([(dot,), self.told(adds), self.sign_lot(dot)])

    def do_command(self, command):
        """Go on by one command."""
        word, *rest = command
        if word == "tie":
            self.do_tie(*rest)
        elif word == "look":
            self.do_look(*rest)
        elif word == "flip":
            self.more_flips(command[1], self.told(command[2]))
        elif word == "sign":
            self.more_signs(command[1], self.told(command[2]))


def reading_of(program):
    """The reading behind all commands."""
    reading = Reading()
    for command in program[2]:
        reading.do_command(command)
    return reading


def account_of(program):
    """The account of the program."""
    ins, outs, _, turns = program
    reading = reading_of(program)
    web = (dots_of(program), odd_ties(reading.ties), ins, outs)
    angles = dict(reading.angles)
    for out, turn in zip(outs, turns):
        angles[out] = -turn % 8
    return (
        web,
        tuple(angles[dot] for dot in web[0]),
        tuple(reading.waits[dot] for dot in looked_of(web)),
        tuple(reading.flip_lot(out) for out in outs),
        tuple(reading.sign_lot(out) for out in outs),
    )


def names_of(program):
    """Pairs (dot, lot) for all looked dots, ascending, lot being the name of dot."""
    return tuple(sorted(reading_of(program).names.items()))
