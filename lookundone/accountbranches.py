"""The branches of an account."""

from lookundone.branches import branch_of
from lookundone.newoutcomes import old_outcomes
from lookundone.rightness import is_right
from lookundone.standards import program_of


def account_branch(account, outcomes):
    """The branch of the account for the outcomes, which are ascending by the dots."""
    program = program_of(account)
    # This refuses outcomes that are not as stated; each name is its dot alone, so they are only put in sequence.
    return branch_of(program, old_outcomes(program, outcomes))


def account_right(account):
    """True if the account is right, at its own angles."""
    return is_right(program_of(account))
