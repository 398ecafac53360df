"""Programs and accounts of all sizes, for several tests."""

import random

from tests.some_webs import some_web


def some_lot(chance, dots):
    return tuple(sorted(dot for dot in dots if chance.random() < 0.5))


def some_command(chance, live, told, unused, looks, widest):
    """A command that may stand behind those that led here, None if the one that was tried may not."""
    word = chance.choice(("new", "tie", "tie", "flip", "sign", "look"))
    if word == "new":
        return ("new", unused[0]) if len(live) < widest and unused else None
    if word == "tie":
        return ("tie", *sorted(chance.sample(live, 2))) if len(live) > 1 else None
    if not live:
        return None
    dot = chance.choice(live)
    if word == "look":
        if len(told) == looks:
            return None
        return ("look", dot, chance.randint(0, 7), some_lot(chance, told), some_lot(chance, told))
    return (word, dot, some_lot(chance, told))


def some_program(chance, ins=2, widest=4, looks=4, commands=15, greatest=30):
    """A program with at most so many live dots, looks and commands."""
    numbers = chance.sample(range(greatest), min(greatest, commands + ins))
    live, unused, told, done = numbers[:ins], numbers[ins:], [], []
    for _ in range(commands):
        command = some_command(chance, live, told, unused, looks, widest)
        if command is not None:
            done.append(command)
            if command[0] == "new":
                live.append(unused.pop(0))
            elif command[0] == "look":
                live.remove(command[1])
                told.append(command[1])
    outs = chance.sample(live, len(live))
    return tuple(numbers[:ins]), tuple(outs), tuple(done), tuple(chance.randint(0, 7) for _ in outs)


def some_programs(count, seed, **limits):
    chance = random.Random(seed)
    return [some_program(chance, ins=k % 4, **limits) for k in range(count)]


def some_account(chance, many=5, ins=None, outs=None):
    """An account whose looks wait for ones ahead of them in some sequence."""
    web = some_web(chance, many, 30, ins, outs)
    angles = tuple(chance.randint(0, 7) for _ in web[0])
    looked = [dot for dot in web[0] if dot not in web[3]]
    sequence = chance.sample(looked, len(looked))
    waits = tuple(some_lot(chance, sequence[:sequence.index(dot)]) for dot in looked)
    flips = tuple(some_lot(chance, looked) for _ in web[3])
    signs = tuple(some_lot(chance, looked) for _ in web[3])
    return web, angles, waits, flips, signs


def some_accounts(count, seed, most=5):
    chance = random.Random(seed)
    return [some_account(chance, k % (most + 1)) for k in range(count)]


def retied(chance, program):
    """The program with some other values in the places of some in it; it may be a program or none."""
    values = (0, 1, 2, 3, 7, 8, -1, 9999, 10000, True, False, None, "", (), (0,), (1, 0), (0, 1), [0], "tie", "look")

    def changed(thing, deep):
        if not isinstance(thing, tuple) or not thing or (deep > 1 and chance.random() < 0.3):
            return chance.choice(values)
        k = chance.randrange(len(thing))
        way = chance.random()
        if way < 0.08:
            return thing[:k] + thing[k + 1:]
        if way < 0.16:
            return thing[:k] + (thing[k], thing[k]) + thing[k + 1:]
        if way < 0.24 and k > 0:
            return thing[:k - 1] + (thing[k], thing[k - 1]) + thing[k + 1:]
        return thing[:k] + (changed(thing[k], deep + 1),) + thing[k + 1:]

    for _ in range(chance.randint(1, 3)):
        program = changed(program, 0)
    return program
