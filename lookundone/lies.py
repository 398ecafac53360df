"""What comes of lies: outcomes told that the looks did not show."""

from lookundone.errors import need
from lookundone.kinds import is_bits, is_lot_of
from lookundone.plankinds import more_angle
from lookundone.webkinds import looked_of


def lied(plan, lot):
    """The plan that a run does whose outcomes at the lot are lied about."""
    need(is_lot_of(looked_of(plan[0]), lot), "lot")
    return more_angle(plan, lot, 4)


def shown_for(account, outcomes, lot):
    """What the looks show if these outcomes are told, and just those at the lot are lies."""
    looked = looked_of(account[0])
    need(is_bits(len(looked), outcomes), "outcomes")
    need(is_lot_of(looked, lot), "lot")
    return tuple(1 - bit if dot in lot else bit for dot, bit in zip(looked, outcomes))
