"""The checker of webs."""

from lookundone.errors import InvalidPaper
from lookundone.webkinds import looked_of, web_fault


def lets_web(thing):
    """How many looked dots the web has."""
    fault = web_fault(thing)
    if fault is not None:
        word, at = fault
        raise InvalidPaper(word, at)
    return len(looked_of(thing))
