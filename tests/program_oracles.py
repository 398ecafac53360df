"""Other ways to reckon what programs do: by dicts of lots, by what each row of outcomes shows, by plain words."""

import itertools

from tests.oracles import product, root_power, total, unit_parts

ROUNDS = ("new", "tie", "flip", "sign", "look")


def is_whole(thing):
    return type(thing) is int


def is_dot_plainly(thing):
    return is_whole(thing) and 0 <= thing <= 9999


def is_lot_plainly(thing):
    if type(thing) is not tuple or not all(is_dot_plainly(dot) for dot in thing):
        return False
    return list(thing) == sorted(set(thing))


def is_formed(command):
    """True if the command has one of the forms, told word by word."""
    if type(command) is not tuple or not command or type(command[0]) is not str:
        return False
    turn = lambda thing: is_whole(thing) and 0 <= thing <= 7
    kinds = {
        "new": (is_dot_plainly,),
        "tie": (is_dot_plainly, is_dot_plainly),
        "flip": (is_dot_plainly, is_lot_plainly),
        "sign": (is_dot_plainly, is_lot_plainly),
        "look": (is_dot_plainly, turn, is_lot_plainly, is_lot_plainly),
    }.get(command[0])
    if kinds is None or len(command) != len(kinds) + 1:
        return False
    if not all(fits(part) for fits, part in zip(kinds, command[1:])):
        return False
    return command[0] != "tie" or command[1] < command[2]


def dots_at(ins, commands):
    """The dots that are live, those looked at, and all that were ever there, behind the commands."""
    there = list(ins) + [command[1] for command in commands if command[0] == "new"]
    gone = [command[1] for command in commands if command[0] == "look"]
    return [dot for dot in there if dot not in gone], gone, there


def fault_plainly(thing):
    """Why thing is no program, as (word, at), None if it is one."""
    dots = lambda part: type(part) is tuple and all(map(is_dot_plainly, part)) and len(set(part)) == len(part)
    if type(thing) is not tuple or len(thing) != 4:
        return "shape", -1
    for word, part in (("ins", thing[0]), ("outs", thing[1])):
        if not dots(part):
            return word, -1
    if type(thing[2]) is not tuple:
        return "commands", -1
    for k, command in enumerate(thing[2]):
        if not is_formed(command):
            return "form", k
        live, gone, there = dots_at(thing[0], thing[2][:k])
        word = command[0]
        if word == "new" and command[1] in there:
            return "new", k
        touched = {"new": (), "tie": command[1:]}.get(word, command[1:2])
        if any(dot not in live for dot in touched):
            return "live", k
        lots = {"new": (), "tie": (), "look": command[3:]}.get(word, command[2:])
        if any(dot not in gone for lot in lots for dot in lot):
            return "lot", k
    if set(dots_at(thing[0], thing[2])[0]) != set(thing[1]):
        return "left", -1
    turns = thing[3]
    if type(turns) is not tuple or len(turns) != len(thing[1]):
        return "turns", -1
    if not all(is_whole(turn) and 0 <= turn <= 7 for turn in turns):
        return "turns", -1
    return None


def branch_worths(program, outcomes):
    """What the entries of the branch stand for, reckoned start by start by dicts of lots."""
    ins, outs, commands, turns = program
    rows = [[None] * 2 ** len(ins) for _ in range(2 ** len(outs))]
    for x in range(2 ** len(ins)):
        start = frozenset(dot for k, dot in enumerate(ins) if x >> k & 1)
        parts, roots = amounts_behind({start: (1, 0, 0, 0)}, commands, outcomes)
        for y in range(2 ** len(outs)):
            end = frozenset(dot for k, dot in enumerate(outs) if y >> k & 1)
            turn = sum(turns[outs.index(dot)] for dot in end)
            rows[y][x] = product(product(parts.get(end, (0, 0, 0, 0)), unit_parts(turn)), root_power(-roots))
    return rows


def amounts_behind(parts, commands, outcomes):
    """What stands behind the commands, by the lot of the live dots with a 1, and over how many roots."""
    shown = {}
    roots = 0
    left = list(outcomes)
    for command in commands:
        word, dot = command[:2]
        odd = lambda lot: sum(shown[other] for other in lot) % 2
        if word == "new":
            parts = {lot | more: part for lot, part in parts.items() for more in (frozenset(), frozenset([dot]))}
            roots += 1
        elif word == "tie":
            parts = {lot: times_unit(part, 4 * ({dot, command[2]} <= lot)) for lot, part in parts.items()}
        elif word == "flip":
            parts = {lot ^ frozenset([dot] * odd(command[2])): part for lot, part in parts.items()}
        elif word == "sign":
            parts = {lot: times_unit(part, 4 * odd(command[2]) * (dot in lot)) for lot, part in parts.items()}
        else:
            shown[dot] = left.pop(0)
            z = (-command[2] if odd(command[3]) else command[2]) + 4 * odd(command[4]) + 4 * shown[dot]
            found = {}
            for lot, part in parts.items():
                found.setdefault(lot - {dot}, []).append(times_unit(part, -z * (dot in lot)))
            parts = {lot: total(added) for lot, added in found.items()}
            roots += 1
    return parts, roots


def times_unit(part, turn):
    return product(part, unit_parts(turn))


def all_bits(many):
    return list(itertools.product((0, 1), repeat=many))


def shown_account(program, outcomes):
    """By the outcomes: the new outcome of each look, whether its waits are odd, what flips and signs each out.

    What is flipped or signed is kept as a bit for each dot, so no lots are reckoned.
    """
    ins, outs, commands, _ = program
    old, new, waits = {}, {}, {}
    flipped, signed = {}, {}
    left = list(outcomes)
    for command in commands:
        word, dot = command[:2]
        odd = lambda lot: sum(old[other] for other in lot) % 2
        if word == "tie":
            other = command[2]
            signed[other] = signed.get(other, 0) ^ flipped.get(dot, 0)
            signed[dot] = signed.get(dot, 0) ^ flipped.get(other, 0)
        elif word == "flip":
            flipped[dot] = flipped.get(dot, 0) ^ odd(command[2])
        elif word == "sign":
            signed[dot] = signed.get(dot, 0) ^ odd(command[2])
        elif word == "look":
            waits[dot] = odd(command[3]) ^ flipped.get(dot, 0)
            old[dot] = left.pop(0)
            # A look with 4 added shows 0 where one without shows 1.
            new[dot] = old[dot] ^ odd(command[4]) ^ signed.get(dot, 0)
    return new, waits, [flipped.get(out, 0) for out in outs], [signed.get(out, 0) for out in outs]
