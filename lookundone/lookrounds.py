"""The rounds of an account's looks, and orders that keep its waits."""

from lookundone.accountkinds import arrows_in
from lookundone.heights import height_by_dot
from lookundone.linear import keeps_arrows
from lookundone.webkinds import looked_of


def rounds_by(account):
    """Pairs (dot, round) for all looked dots, ascending, by the waits."""
    return tuple(sorted(height_by_dot(looked_of(account[0]), arrows_in(account)).items()))


def many_rounds(account):
    """How many rounds there are."""
    return max([many for _, many in rounds_by(account)], default=0)


def keeps_waits(account, order):
    """True if each dot of an order of the web stands behind those for which it waits."""
    return keeps_arrows(order, arrows_in(account))
