"""Secrets of a web: a turn and a bit for each look, which a client keeps from its worker."""

from lookundone.errors import need
from lookundone.kinds import is_number_below, is_tuple_of, is_turn
from lookundone.webkinds import looked_of


def is_secrets(web, thing):
    """True if thing is secrets of the web."""
    if not is_tuple_of(len(looked_of(web)), thing):
        return False
    return all(is_tuple_of(2, pair) and is_turn(pair[0]) and is_number_below(2, pair[1]) for pair in thing)


def sent_turns(web, secrets):
    """The turns in the secrets."""
    need(is_secrets(web, secrets), "secrets")
    return tuple(turn for turn, _ in secrets)
