"""The branches of a program: what its looks may show, and what comes of it."""

from lookundone.errors import need
from lookundone.gatetables import rows_turned
from lookundone.kinds import is_bits
from lookundone.likeness import square_of
from lookundone.programkinds import looks_of
from lookundone.states import stand_after, stand_start
from lookundone.tables import one_form


def branch_of(program, outcomes):
    """The branch of the program for the outcomes."""
    need(is_bits(len(looks_of(program)), outcomes), "outcomes")
    stand = stand_start(program[0])
    looks = 0
    for command in program[2]:
        if command[0] == "look":
            stand = stand_after(stand, command, outcomes[looks])
            looks += 1
        else:
            stand = stand_after(stand, command, 0)
    return end_table(program, stand)


def branches_of(program):
    """The branches for all outcomes, as Python sorts these."""
    stands = [stand_start(program[0])]
    for command in program[2]:
        bits = (0, 1) if command[0] == "look" else (0,)
        stands = [stand_after(stand, command, bit) for stand in stands for bit in bits]
    return tuple(end_table(program, stand) for stand in stands)


def end_table(program, stand):
    """The table of what stands there at the end, with the outs in their sequence and turned."""
    ins, outs, _, turns = program
    live, _, power, rows = stand
    for out, turn in zip(outs, turns):
        rows = rows_turned(rows, 1 << live.index(out), turn)
    places = [live.index(out) for out in outs]
    sequence = [sum([1 << place for k, place in enumerate(places) if y >> k & 1]) for y in range(len(rows))]
    return one_form(len(outs), len(ins), power, [rows[number] for number in sequence])


def chance_of(program, outcomes):
    """The square of the branch for the outcomes."""
    return square_of(branch_of(program, outcomes))
