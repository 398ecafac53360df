"""States: what stands at the live dots behind some of a program's commands."""

from lookundone.errors import need
from lookundone.exacts import exact_product, exact_sum, unit
from lookundone.gatetables import rows_turned
from lookundone.kinds import is_number_below
from lookundone.programchecker import command_fault
from lookundone.tables import one_form, one_rows, one_table


def state_start(ins):
    """The state ahead of all commands."""
    return (ins, (), one_table(len(ins)))


def state_after(state, command, bit):
    """The state behind the command; bit is the outcome of a look."""
    live, told, (_, ins, power, rows) = state
    is_live = {dot: False for dot, _ in told}
    for dot in live:
        is_live[dot] = True
    need(command_fault(is_live, command) is None, "command")
    need(is_number_below(2 if command[0] == "look" else 1, bit), "bit")
    stand = (live, {dot: outcome for dot, outcome in told}, power, list(rows))
    live, outcomes, power, rows = stand_after(stand, command, bit)
    return (live, tuple(sorted(outcomes.items())), one_form(len(live), ins, power, rows))


def stand_start(ins):
    """What stands there ahead of all commands.

    A stand is a state that is easier to go on with: (live, outcomes, power, rows), where outcomes is a dict, and
    power and rows are those of a table that need not be in its one form.
    """
    return (ins, {}, 0, one_rows(len(ins)))


def stand_after(stand, command, bit):
    """What stands there behind the command; bit is the outcome of a look. Nothing is checked."""
    live, outcomes, power, rows = stand
    word, dot = command[:2]
    if word == "new":
        return (live + (dot,), outcomes, power + 1, rows + rows)
    place = live.index(dot)
    dot_bit = 1 << place
    if word == "tie":
        return (live, outcomes, power, rows_turned(rows, dot_bit | 1 << live.index(command[2]), 4))
    if word == "look":
        new_live = live[:place] + live[place + 1:]
        new_rows = rows_looked(rows, dot_bit, look_turn(outcomes, command, bit))
        return (new_live, {**outcomes, dot: bit}, power + 1, new_rows)
    if is_odd_by(outcomes, command[2]):
        if word == "flip":
            rows = [rows[y ^ dot_bit] for y in range(len(rows))]
        else:
            rows = rows_turned(rows, dot_bit, 4)
    return (live, outcomes, power, rows)


def is_odd_by(outcomes, lot):
    """True if the bits at the dots of the lot have an odd sum."""
    return sum([outcomes[dot] for dot in lot]) % 2 == 1


def look_turn(outcomes, command, bit):
    """The turn of a look, changed by its waits, its adds and its outcome."""
    _, _, turn, waits, adds = command
    if is_odd_by(outcomes, waits):
        turn = -turn
    if is_odd_by(outcomes, adds):
        turn += 4
    return (turn + 4 * bit) % 8


def rows_looked(rows, bit, turn):
    """The rows behind a look at the out of this bit, times r."""
    factor = unit(-turn % 8)
    found = []
    for y in range(len(rows)):
        if not y & bit:
            added = [exact_product(factor, exact) for exact in rows[y | bit]]
            found.append([exact_sum(exact, more) for exact, more in zip(rows[y], added)])
    return found
