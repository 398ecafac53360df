"""Commands and their dots, and what a program's commands tell of its dots and looks."""

from lookundone.errors import need
from lookundone.kinds import is_dot, is_lot, is_turn, is_turns

CORRECTIONS = ("flip", "sign")


def is_command(thing):
    """True if thing has one of the forms of a program's commands."""
    if not (isinstance(thing, tuple) and len(thing) > 1 and is_dot(thing[1])):
        return False
    word = thing[0]
    if word == "new":
        return len(thing) == 2
    if word == "look":
        return len(thing) == 5 and is_turn(thing[2]) and is_lot(thing[3]) and is_lot(thing[4])
    if len(thing) != 3:
        return False
    if word == "tie":
        return is_dot(thing[2]) and thing[1] < thing[2]
    return word in CORRECTIONS and is_lot(thing[2])


def named_dots(command):
    """The dots that the command makes, ties, flips, signs or looks at, not those of its lots."""
    return command[1:3] if command[0] == "tie" else command[1:2]


def lots_in(command):
    """The lots of the command."""
    if command[0] == "look":
        return command[3:]
    return command[2:] if command[0] in CORRECTIONS else ()


def with_lots(command, lots):
    """The command with other lots, as many as it has."""
    return command[:len(command) - len(lots)] + lots


def looks_of(program):
    """The dots looked at, in the sequence of the looks."""
    return tuple(command[1] for command in program[2] if command[0] == "look")


def dots_of(program):
    """The lot of the ins and all new dots."""
    made = [command[1] for command in program[2] if command[0] == "new"]
    return tuple(sorted([*program[0], *made]))


def live_counts(program):
    """How many dots are live behind each command."""
    counts = []
    live = len(program[0])
    for command in program[2]:
        if command[0] == "new":
            live += 1
        elif command[0] == "look":
            live -= 1
        counts.append(live)
    return tuple(counts)


def with_turns(program, turns):
    """The program with other turns at its looks."""
    ins, outs, commands, out_turns = program
    need(is_turns(len(looks_of(program)), turns), "turns")
    changed = []
    looks = 0
    for command in commands:
        if command[0] == "look":
            command = command[:2] + (turns[looks],) + command[3:]
            looks += 1
        changed.append(command)
    return (ins, outs, tuple(changed), out_turns)
