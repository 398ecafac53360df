"""Programs one behind another, side by side, and with other numbers."""

from lookundone.errors import need
from lookundone.kinds import is_dots
from lookundone.planjoins import new_numbers
from lookundone.programchecker import is_program
from lookundone.programkinds import dots_of, lots_in, with_lots
from lookundone.webkinds import tie_of


def renumbered(command, numbers):
    """The command with the dots that a dict of the dots tells."""
    word = command[0]
    if word == "tie":
        return (word, *tie_of(numbers[command[1]], numbers[command[2]]))
    lots = tuple(tuple(sorted([numbers[dot] for dot in lot])) for lot in lots_in(command))
    return with_lots((word, numbers[command[1]], *command[2:]), lots)


def renumbered_parts(program, numbers):
    """The ins, the outs and the commands of the program, with the dots that a dict of the dots tells."""
    ins, outs, commands, _ = program
    return (
        tuple(numbers[dot] for dot in ins),
        tuple(numbers[dot] for dot in outs),
        tuple(renumbered(command, numbers) for command in commands),
    )


def chained_programs(first, second):
    """The program that does first, then second."""
    need(all(turn == 0 for turn in first[3]), "first")
    need(is_program(second) and len(second[0]) == len(first[1]), "second")
    known = {dot: out for dot, out in zip(second[0], first[1])}
    numbers = new_numbers(dots_of(first), dots_of(second), known)
    _, outs, commands = renumbered_parts(second, numbers)
    return (first[0], outs, first[2] + commands, second[3])


def beside_programs(low, high):
    """The program that does both, high's ins and outs behind those of low."""
    need(is_program(high), "high")
    numbers = new_numbers(dots_of(low), dots_of(high), {})
    ins, outs, commands = renumbered_parts(high, numbers)
    return (low[0] + ins, low[1] + outs, low[2] + commands, low[3] + high[3])


def renamed_program(program, names):
    """The program with names[k] for the dot at place k of all its dots."""
    dots = dots_of(program)
    need(is_dots(names) and len(names) == len(dots), "names")
    numbers = {dot: new for dot, new in zip(dots, names)}
    return (*renumbered_parts(program, numbers), program[3])
