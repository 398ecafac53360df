"""Quick accounts, in which looks at the turns 0, 2, 4 and 6 wait for nothing."""

from lookundone.accounts import account_of
from lookundone.errors import need
from lookundone.flowkinds import is_flow
from lookundone.rightaccounts import right_program
from lookundone.standards import program_of


def quick_command(command):
    """The command, or the look that shows the same without its waits."""
    if command[0] != "look":
        return command
    word, dot, turn, waits, adds = command
    if turn in (0, 4):
        return (word, dot, turn, (), adds)
    if turn in (2, 6):
        return (word, dot, turn, (), waits)
    return command


def quick_account(plan, flow):
    """The account of the program by the flow with its looks made quick."""
    need(is_flow(plan[0], flow), "flow")
    ins, outs, commands, turns = right_program(plan, flow)
    return account_of((ins, outs, tuple(quick_command(command) for command in commands), turns))


def quick_program(plan, flow):
    """The program of the quick account."""
    need(is_flow(plan[0], flow), "flow")
    return program_of(quick_account(plan, flow))
