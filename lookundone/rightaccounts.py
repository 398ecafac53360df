"""The account by a flow, and the flow in an account."""

from lookundone.errors import need
from lookundone.flowkinds import is_flow
from lookundone.oddlots import odd_lot
from lookundone.standards import program_of
from lookundone.webkinds import looked_of


def right_account(plan, flow):
    """The account by the flow: what each look waits for, and what flips and signs the outs."""
    web, angles = plan
    need(is_flow(web, flow), "flow")
    odd_lots = tuple((dot, odd_lot(web, lot)) for dot, lot in flow)
    waits = tuple(dots_whose_lots_have(flow, dot) for dot in looked_of(web))
    flips = tuple(dots_whose_lots_have(flow, out) for out in web[3])
    signs = tuple(dots_whose_lots_have(odd_lots, out) for out in web[3])
    return (web, angles, waits, flips, signs)


def dots_whose_lots_have(pairs, dot):
    """The lot of those first dots of the pairs (dot, lot) in whose lots dot lies."""
    return tuple(other for other, lot in pairs if dot in lot)


def right_program(plan, flow):
    """The program of the account by the flow."""
    need(is_flow(plan[0], flow), "flow")
    return program_of(right_account(plan, flow))


def lots_told(account):
    """Pairs (dot, lot) of the looked dots and the looks that wait for them with the outs that they flip, ascending."""
    web, _, waits, flips, _ = account
    looked = looked_of(web)
    pairs = []
    for dot in looked:
        lot = [other for other, wait in zip(looked, waits) if dot in wait]
        lot.extend([out for out, flip in zip(web[3], flips) if dot in flip])
        pairs.append((dot, tuple(sorted(lot))))
    return tuple(pairs)


def word_at(account, dot, lot):
    """The first word that applies to the looked dot with this lot, None if none does."""
    web, _, _, _, signs = account
    if any(other in web[2] for other in lot):
        return "made"
    odd = odd_lot(web, lot)
    if [other for other in odd if other not in web[3]] != [dot]:
        return "odd"
    signed = [out for out, sign in zip(web[3], signs) if dot in sign]
    if sorted(signed) != [other for other in odd if other in web[3]]:
        return "sign"
    return None


def wrong_lot(account):
    """The pair (word, dot) of the first looked dot whose lot is none of a flow, None if there is none."""
    for dot, lot in lots_told(account):
        word = word_at(account, dot, lot)
        if word is not None:
            return (word, dot)
    return None


def flow_in(account):
    """The flow by which the account is, None if it is by none."""
    return lots_told(account) if wrong_lot(account) is None else None
