"""Blind runs: what a client asks, and what the worker has at the end."""

from lookundone.clients import Client
from lookundone.errors import need
from lookundone.flowkinds import is_flow
from lookundone.kinds import is_bits
from lookundone.secrets import is_secrets, sent_turns
from lookundone.seenby import is_order_by
from lookundone.shifting import shifted
from lookundone.workers import Worker


def check_run(plan, flow, order, secrets, answers):
    """Refuse what is no run of the plan by the flow."""
    web = plan[0]
    need(is_flow(web, flow), "flow")
    need(is_order_by(web, flow, order), "order")
    need(is_secrets(web, secrets), "secrets")
    need(is_bits(len(order), answers), "answers")


def asked_turns(plan, flow, order, secrets, answers):
    """The turns that the client asks, place by place, hearing these answers."""
    check_run(plan, flow, order, secrets, answers)
    client = Client(plan, flow, secrets)
    asked = []
    for dot, bit in zip(order, answers):
        asked.append(client.asks(dot))
        client.hears(dot, bit)
    return tuple(asked)


def blind_table(plan, flow, order, secrets, answers):
    """What the worker has at the end, behind the client's flips, signs and turns."""
    check_run(plan, flow, order, secrets, answers)
    client = Client(plan, flow, secrets)
    worker = Worker(plan[0], sent_turns(plan[0], secrets))
    for dot, bit in zip(order, answers):
        worker.looks(dot, client.asks(dot), bit)
        client.hears(dot, bit)
    flips, signs, turns = client.ended()
    return shifted(worker.outs_table(), flips, signs, turns)
