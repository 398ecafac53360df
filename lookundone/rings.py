"""Rings of arrows."""

from lookundone.arrowkinds import dots_behind, is_arrows_of
from lookundone.errors import need


def shortest_ring(dots, arrows):
    """A shortest ring, None if there is none."""
    need(is_arrows_of(dots, arrows), "arrows")
    behind = dots_behind(dots, arrows)
    shortest = None
    for dot in dots:
        ring = ring_through(dot, behind)
        if ring is not None and (shortest is None or len(ring) < len(shortest)):
            shortest = ring
    return shortest


def ring_through(dot, behind):
    """A shortest ring that begins at dot, None if there is none."""
    # The dot from which each dot was met first; dot itself is met only by a ring.
    met_from = {}
    level = [dot]
    while level and dot not in met_from:
        found = []
        for one in level:
            for other in behind[one]:
                if other not in met_from:
                    met_from[other] = one
                    found.append(other)
        level = found
    if dot not in met_from:
        return None
    ring = [dot]
    at = met_from[dot]
    while at != dot:
        ring.append(at)
        at = met_from[at]
    # What was found leads back to dot, from the last dot to the first one.
    return (dot, *ring[:0:-1])
