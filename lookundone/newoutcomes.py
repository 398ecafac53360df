"""Outcomes of a program, and the new outcomes by which its account tells them."""

from lookundone.accounts import names_of
from lookundone.errors import need
from lookundone.kinds import is_bits
from lookundone.programkinds import looks_of


def new_outcomes(program, outcomes):
    """The new outcomes, ascending by the dots, for outcomes of the program."""
    looks = looks_of(program)
    need(is_bits(len(looks), outcomes), "outcomes")
    names = dict(names_of(program))
    new = {}
    for dot, bit in zip(looks, outcomes):
        # All other dots of the name were looked at earlier, so their new outcomes are known.
        earlier = [new[other] for other in names[dot] if other != dot]
        new[dot] = (bit + sum(earlier)) % 2
    return tuple(new[dot] for dot in sorted(looks))


def old_outcomes(program, outcomes):
    """The outcomes of the program for new outcomes, which are ascending by the dots."""
    looks = looks_of(program)
    need(is_bits(len(looks), outcomes), "outcomes")
    new = {dot: bit for dot, bit in zip(sorted(looks), outcomes)}
    names = dict(names_of(program))
    return tuple(sum([new[other] for other in names[dot]]) % 2 for dot in looks)
