"""Lazy runs, which make dots and lay ties only when a look needs them."""

from lookundone.branches import end_table
from lookundone.errors import need
from lookundone.focusing import is_order
from lookundone.kinds import is_bits
from lookundone.lookrounds import keeps_waits
from lookundone.machines import Machine
from lookundone.shifting import shifted
from lookundone.states import stand_after, stand_start
from lookundone.webkinds import near_of


def lazy_events(web, order):
    """What a lazy run makes, ties and looks at, in sequence."""
    need(is_order(web, order), "order")
    _, ties, ins, outs = web
    events = []
    made = {dot: True for dot in ins}
    laid = {}
    for dot in order:
        add_new(events, made, sorted([dot, *near_of(web, dot)]))
        add_ties(events, laid, [tie for tie in ties if dot in tie])
        events.append(("look", dot))
    add_new(events, made, sorted(outs))
    add_ties(events, laid, ties)
    return tuple(events)


def add_new(events, made, dots):
    """Make those of the dots that are not there yet."""
    for dot in dots:
        if dot not in made:
            made[dot] = True
            events.append(("new", dot))


def add_ties(events, laid, ties):
    """Lay those of the ties that are not laid yet."""
    for tie in ties:
        if tie not in laid:
            laid[tie] = True
            events.append(("tie", *tie))


def lazy_run(plan, flow, fast, order, outcomes):
    """The table that comes of a lazy run with these outcomes."""
    web = plan[0]
    # A machine refuses the flow and fast itself.
    machine = Machine(plan, flow, fast)
    need(is_order(web, order) and keeps_waits(machine.account, order), "order")
    need(is_bits(len(order), outcomes), "outcomes")
    _, _, ins, outs = web
    bits = {dot: bit for dot, bit in zip(order, outcomes)}
    stand = stand_start(ins)
    for event in lazy_events(web, order):
        if event[0] == "look":
            dot = event[1]
            stand = stand_after(stand, ("look", dot, machine.angle(dot), (), ()), bits[dot])
            machine.tell(dot, bits[dot])
        else:
            stand = stand_after(stand, event, 0)
    # A program of no commands, whose outs are not turned yet: their turns come behind flips and signs.
    table = end_table((ins, outs, (), (0,) * len(outs)), stand)
    flips, signs, turns = machine.ended()
    return shifted(table, flips, signs, turns)
