"""Which programs are right, and what they do then."""

from lookundone.branches import branches_of
from lookundone.errors import NotRight
from lookundone.likeness import alike
from lookundone.programkinds import looks_of, with_turns
from lookundone.scaling import scaled


def outcomes_at(many, k):
    """The outcomes of many looks at place k, as Python sorts them all."""
    return tuple(k >> (many - 1 - look) & 1 for look in range(many))


def wrong_place(branches):
    """The place of the first branch that is nought or not alike to the first one, None if there is none."""
    for k, branch in enumerate(branches):
        if alike(branch, branches[0]) is None:
            return k
    return None


def is_right(program):
    """True if the program is right, at its own turns."""
    return wrong_place(branches_of(program)) is None


def mapped(program):
    """The first branch times r to the number of looks."""
    looks = len(looks_of(program))
    branches = branches_of(program)
    wrong = wrong_place(branches)
    if wrong is not None:
        raise NotRight(outcomes_at(looks, wrong))
    return scaled(branches[0], looks)


def right_at(program, turns):
    """True if the program is right with these turns at its looks."""
    return is_right(with_turns(program, turns))
