"""Which values are programs, and why others are none."""

from lookundone.errors import InvalidPaper
from lookundone.kinds import is_dots, is_tuple_of, is_turns
from lookundone.programkinds import is_command, looks_of, lots_in, named_dots


def command_fault(is_live, command):
    """The word that tells why the command can't stand there, None if it can.

    is_live is a dict: a dot is in it once it is there, and it is True until it is looked at.
    """
    if not is_command(command):
        return "form"
    if command[0] == "new":
        return "new" if command[1] in is_live else None
    if not all(is_live.get(dot, False) for dot in named_dots(command)):
        return "live"
    if any(is_live.get(dot, True) for lot in lots_in(command) for dot in lot):
        return "lot"
    return None


def program_fault(thing):
    """The pair (word, at) that tells why thing is no program, None if it is one."""
    if not is_tuple_of(4, thing):
        return "shape", -1
    ins, outs, commands, turns = thing
    if not is_dots(ins):
        return "ins", -1
    if not is_dots(outs):
        return "outs", -1
    if not isinstance(commands, tuple):
        return "commands", -1
    is_live = {dot: True for dot in ins}
    for k, command in enumerate(commands):
        word = command_fault(is_live, command)
        if word is not None:
            return word, k
        if command[0] in ("new", "look"):
            is_live[command[1]] = command[0] == "new"
    if sorted([dot for dot in is_live if is_live[dot]]) != sorted(outs):
        return "left", -1
    if not is_turns(len(outs), turns):
        return "turns", -1
    return None


def is_program(thing):
    """True if thing is a program."""
    return program_fault(thing) is None


def lets_program(thing):
    """How many looks the program has."""
    fault = program_fault(thing)
    if fault is not None:
        word, at = fault
        raise InvalidPaper(word, at)
    return len(looks_of(thing))
