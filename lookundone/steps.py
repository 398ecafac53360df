"""Steps of a program: which fit, what they do, and how they change outcomes."""

from lookundone.errors import need
from lookundone.kinds import is_bits, is_number_below, is_tuple_of
from lookundone.oddlots import sum_of_lots
from lookundone.programkinds import CORRECTIONS, looks_of, lots_in, named_dots, with_lots

# All words of steps, as Python sorts.
STEP_WORDS = ("cancel", "drop", "into", "join", "past", "shift", "swap")


def steps_of(program):
    """All steps of the program, as Python sorts."""
    commands = program[2]
    return tuple(
        (word, place) for word in STEP_WORDS for place in range(len(commands)) if fits(commands, word, place)
    )


def fits(commands, word, place):
    """True if a step with this word fits the commands at this place."""
    one = commands[place]
    if word == "drop":
        return one[0] in CORRECTIONS and one[2] == ()
    if word == "shift":
        return one[0] == "look" and one[4] != ()
    if place + 1 == len(commands):
        return False
    other = commands[place + 1]
    if word == "cancel":
        return one[0] == "tie" and one == other
    if word == "swap":
        return can_swap(one, other)
    # The other words are about a flip or a sign, and what is done next to its dot.
    if one[0] not in CORRECTIONS or one[1] not in named_dots(other):
        return False
    if word == "past":
        return one[0] == "flip" and other[0] == "tie"
    if word == "into":
        return other[0] == "look"
    return one[0] == other[0]


def can_swap(one, other):
    """True if the two commands can change places by a swap."""
    # The other way round it can't be: lots have only dots that were looked at ahead.
    if one[0] == "look" and any(one[1] in lot for lot in lots_in(other)):
        return False
    words = (one[0], other[0])
    if words in (("tie", "tie"), ("tie", "sign"), ("sign", "tie")):
        return True
    if words[0] in CORRECTIONS and words[1] in CORRECTIONS:
        return True
    return not any(dot in named_dots(other) for dot in named_dots(one))


def commands_behind(commands, word, place):
    """The commands behind a step, which must fit."""
    ahead = commands[:place]
    if word == "drop":
        return ahead + commands[place + 1:]
    if word == "shift":
        return ahead + shifted_adds(commands[place:])
    return ahead + in_place_of_two(word, commands[place], commands[place + 1]) + commands[place + 2:]


def shifted_adds(commands):
    """The commands with the adds of the first one, a look, moved into the later ones."""
    dot = commands[0][1]
    adds = commands[0][4]
    changed = [with_lots(commands[0], (commands[0][3], ()))]
    for command in commands[1:]:
        lots = tuple(sum_of_lots([lot, adds]) if dot in lot else lot for lot in lots_in(command))
        changed.append(with_lots(command, lots))
    return tuple(changed)


def in_place_of_two(word, one, other):
    """What a step with this word, which must fit, puts in the place of two commands."""
    if word == "cancel":
        return ()
    if word == "swap":
        return (other, one)
    if word == "join":
        return ((one[0], one[1], sum_of_lots([one[2], other[2]])),)
    if word == "past":
        signed = other[1] if other[1] != one[1] else other[2]
        return (other, one, ("sign", signed, one[2]))
    waits, adds = other[3:]
    if one[0] == "flip":
        return (with_lots(other, (sum_of_lots([waits, one[2]]), adds)),)
    return (with_lots(other, (waits, sum_of_lots([adds, one[2]]))),)


def is_step(program, thing):
    """True if thing is a step of the program."""
    if not (is_tuple_of(2, thing) and thing[0] in STEP_WORDS):
        return False
    return is_number_below(len(program[2]), thing[1]) and fits(program[2], thing[0], thing[1])


def step_done(program, step):
    """The program behind the step."""
    need(is_step(program, step), "step")
    return program_behind(program, step)


def program_behind(program, step):
    """The program behind a step, which must fit."""
    ins, outs, commands, turns = program
    word, place = step
    return (ins, outs, commands_behind(commands, word, place), turns)


def step_outcomes(program, step, outcomes):
    """The outcomes that, behind the step, lead to what these outcomes lead to ahead of it."""
    need(is_step(program, step), "step")
    looks = looks_of(program)
    need(is_bits(len(looks), outcomes), "outcomes")
    word, place = step
    bits = list(outcomes)
    commands = program[2]
    command = commands[place]
    if command[0] != "look":
        return outcomes
    look = looks.index(command[1])
    if word == "shift":
        bits[look] = sum([bits[look], *[outcomes[looks.index(dot)] for dot in command[4]]]) % 2
    elif commands[place + 1][0] == "look":
        bits[look], bits[look + 1] = bits[look + 1], bits[look]
    return tuple(bits)
