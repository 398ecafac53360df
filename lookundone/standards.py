"""The program of an account, the standard program, and where two accounts differ."""

from lookundone.accountkinds import arrows_in, is_account
from lookundone.accounts import account_of
from lookundone.errors import need
from lookundone.linear import linear_order
from lookundone.plainprograms import program_with
from lookundone.plankinds import angles_by_dot
from lookundone.webkinds import looked_of


def program_of(account):
    """The program of the account."""
    web, angles, waits, flips, signs = account
    looked = looked_of(web)
    angle_at = angles_by_dot((web, angles))
    wait_at = {dot: lot for dot, lot in zip(looked, waits)}
    commands = [
        ("look", dot, angle_at[dot], wait_at[dot], ()) for dot in linear_order(looked, arrows_in(account))
    ]
    for out, flip, sign in zip(web[3], flips, signs):
        if flip:
            commands.append(("flip", out, flip))
        if sign:
            commands.append(("sign", out, sign))
    return program_with((web, angles), commands)


def standard_of(program):
    """The standard program of the program."""
    return program_of(account_of(program))


def apart_of(one, other):
    """The first of what is asked of two accounts in which they differ, None if they are equal."""
    need(is_account(other), "other")
    return difference_of(one, other)


def difference_of(one, other):
    """The same as apart_of, without a check."""
    dots, ties, ins, outs = one[0]
    other_dots, other_ties, other_ins, other_outs = other[0]
    if ins != other_ins:
        return "ins"
    if outs != other_outs:
        return "outs"
    if dots != other_dots:
        return "dots"
    if ties != other_ties:
        return "ties"
    looked = looked_of(one[0])
    for word, places, rows, other_rows in (
        ("angle", dots, one[1], other[1]),
        ("waits", looked, one[2], other[2]),
        ("flip", outs, one[3], other[3]),
        ("sign", outs, one[4], other[4]),
    ):
        for dot, row, other_row in zip(places, rows, other_rows):
            if row != other_row:
                return (word, dot)
    return None
