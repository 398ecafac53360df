"""The checker of steps done one after the other."""

from lookundone.errors import InvalidPaper
from lookundone.steps import is_step, program_behind


def lets_steps(program, thing):
    """The program behind all of the steps."""
    if not isinstance(thing, tuple):
        raise InvalidPaper("shape", -1)
    for k, step in enumerate(thing):
        if not is_step(program, step):
            raise InvalidPaper("step", k)
        program = program_behind(program, step)
    return program
