"""The branches of an account."""

from lookundone.branches import branch_of
from lookundone.errors import need
from lookundone.kinds import is_bits
from lookundone.newoutcomes import old_outcomes
from lookundone.rightness import is_right
from lookundone.standards import program_of
from lookundone.webkinds import looked_of


def account_branch(account, outcomes):
    """The branch of the account for the outcomes, which are ascending by the dots."""
    need(is_bits(len(looked_of(account[0])), outcomes), "outcomes")
    program = program_of(account)
    return branch_of(program, old_outcomes(program, outcomes))


def account_right(account):
    """True if the account is right, at its own angles."""
    return is_right(program_of(account))
