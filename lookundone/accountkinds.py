"""Accounts: which values are accounts, their plans and their waits."""

from lookundone.errors import need
from lookundone.kinds import are_lots_of, is_tuple_of
from lookundone.linear import linear_order
from lookundone.plankinds import is_plan
from lookundone.webkinds import is_dot_of, looked_of


def wait_arrows(looked, waits):
    """The pairs (one, other) such that the look at other waits for one."""
    return tuple(sorted([(one, other) for other, lot in zip(looked, waits) for one in lot]))


def is_account(thing):
    """True if thing is an account."""
    if not (is_tuple_of(5, thing) and is_plan(thing[:2])):
        return False
    web, _, waits, flips, signs = thing
    looked = looked_of(web)
    many = len(web[3])
    if not (are_lots_of(looked, len(looked), waits) and are_lots_of(looked, many, flips)):
        return False
    return are_lots_of(looked, many, signs) and linear_order(looked, wait_arrows(looked, waits)) is not None


def plan_in(account):
    """The plan of the account."""
    return account[:2]


def waits_at(account, dot):
    """The lot of the dots for which the look at dot waits."""
    looked = looked_of(account[0])
    need(is_dot_of(looked, dot), "dot")
    return account[2][looked.index(dot)]


def arrows_in(account):
    """All pairs (one, other) such that the look at other waits for one, ascending."""
    return wait_arrows(looked_of(account[0]), account[2])
