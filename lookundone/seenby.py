"""What a worker sees of a blind run: which secrets may lie behind it, and what was sent by them."""

from lookundone.errors import need
from lookundone.exacts import NOUGHT, exact_sum, unit
from lookundone.flowkinds import flow_arrows, is_flow
from lookundone.focusing import is_order
from lookundone.kinds import is_bits, is_turns
from lookundone.linear import keeps_arrows
from lookundone.machines import Machine
from lookundone.secrets import is_secrets
from lookundone.tables import one_form
from lookundone.webkinds import looked_of


def is_order_by(web, flow, thing):
    """True if thing is an order of the web that keeps the arrows of the flow."""
    return is_order(web, thing) and keeps_arrows(thing, flow_arrows(looked_of(web), flow))


def secrets_for(plan, flow, order, asked, answers):
    """All secrets, ascending, with which a client that hears these answers asks these turns."""
    web = plan[0]
    need(is_flow(web, flow), "flow")
    need(is_order_by(web, flow, order), "order")
    need(is_turns(len(order), asked), "asked")
    need(is_bits(len(order), answers), "answers")
    rows = [()]
    for _ in order:
        rows = [(*row, bit) for row in rows for bit in (0, 1)]
    found = [secrets_with(plan, flow, list(zip(order, asked, answers, row))) for row in rows]
    return tuple(sorted(found))


def secrets_with(plan, flow, looks):
    """The secrets by which the looks, quadruples (dot, asked turn, answer, bit in the secrets), are asked so."""
    machine = Machine(plan, flow, False)
    secrets = {}
    for dot, turn, answer, bit in looks:
        secrets[dot] = ((turn - machine.angle(dot) - 4 * bit) % 8, bit)
        machine.tell(dot, answer ^ bit)
    return tuple(secrets[dot] for dot in looked_of(plan[0]))


def sent_sum(web, secrets):
    """The sum of the tables of what was sent by each of the secrets."""
    need(isinstance(secrets, tuple) and all(is_secrets(web, part) for part in secrets), "secrets")
    many = len(looked_of(web))
    rows = []
    for y in range(1 << many):
        row = []
        for x in range(1 << many):
            total = NOUGHT
            for part in secrets:
                total = exact_sum(total, unit(sent_turn(part, y, x)))
            row.append(total)
        rows.append(row)
    return one_form(many, many, 0, rows)


def sent_turn(secrets, y, x):
    """The turns at whose places y has a 1 added, those at whose places x has a 1 taken off."""
    total = 0
    for place, (turn, _) in enumerate(secrets):
        total += turn * ((y >> place & 1) - (x >> place & 1))
    return total % 8
