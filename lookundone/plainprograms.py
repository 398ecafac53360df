"""The plain program of a plan."""

from lookundone.plankinds import angles_by_dot
from lookundone.webkinds import looked_of, made_of


def plain_program(plan):
    """The program that makes, ties and looks, each ascending, and undoes nothing."""
    angles = angles_by_dot(plan)
    looks = [("look", dot, angles[dot], (), ()) for dot in looked_of(plan[0])]
    return program_with(plan, looks)


def program_with(plan, more):
    """The program that makes the plan's made dots, lays its ties, and goes on with more commands."""
    web = plan[0]
    _, ties, ins, outs = web
    angles = angles_by_dot(plan)
    commands = [("new", dot) for dot in made_of(web)]
    commands.extend([("tie", one, other) for one, other in ties])
    commands.extend(more)
    return (ins, outs, tuple(commands), tuple(-angles[out] % 8 for out in outs))
