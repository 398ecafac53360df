"""The sums of a plan, dot by dot, with few dots at hand at a time."""

from lookundone.errors import need
from lookundone.exacts import NOUGHT, ONE, exact_product, exact_sum, unit
from lookundone.kinds import is_dots_of
from lookundone.plankinds import angles_by_dot
from lookundone.tables import one_form
from lookundone.webkinds import near_of


def is_all_dots(web, thing):
    """True if thing is a tuple of all dots of the web, each once."""
    return is_dots_of(web[0], thing) and len(thing) == len(web[0])


def last_places(web, dots):
    """A dict with the place of dots behind which each dot is done; the ins and outs are not in it."""
    place_of = {dot: place for place, dot in enumerate(dots)}
    last = {}
    for dot in dots:
        if dot not in web[2] and dot not in web[3]:
            near = near_of(web, dot)
            last[dot] = max([place_of[other] for other in (dot, *near)])
    return last


def live_along(web, dots):
    """For each place of dots how many of the dots up to it are not done there."""
    need(is_all_dots(web, dots), "dots")
    last = last_places(web, dots)
    many = len(dots)
    return tuple(
        len([dot for dot in dots[:place + 1] if last.get(dot, many) > place]) for place in range(many)
    )


def sums_along(plan, dots):
    """The sums of the plan, with its dots gone through in this sequence."""
    web = plan[0]
    need(is_all_dots(web, dots), "dots")
    angles = angles_by_dot(plan)
    last = last_places(web, dots)
    live = []
    # The sums so far by the bits of the live dots: place k of a key is live[k].
    sums = {0: ONE}
    for place, dot in enumerate(dots):
        sums = sums_with(sums, near_mask(web, dot, live), len(live), unit(-angles[dot] % 8))
        live.append(dot)
        done_here = [other for other in live if last.get(other, len(dots)) == place]
        for done in done_here:
            sums = sums_without(sums, live.index(done))
            live.remove(done)
    return table_of_sums(web, live, sums)


def near_mask(web, dot, live):
    """The bits of the live dots that are tied to dot."""
    near = near_of(web, dot)
    return sum(1 << k for k, other in enumerate(live) if other in near)


def sums_with(sums, near_bits, place, factor):
    """The sums with one more live dot at this place, tied to those of near_bits."""
    found = {}
    negative_factor = exact_product(unit(4), factor)
    for key, exact in sums.items():
        found[key] = exact
        found[key | (1 << place)] = exact_product(negative_factor if is_odd(key & near_bits) else factor, exact)
    return found


def is_odd(bits):
    """True if the number has an odd number of bits that are 1."""
    odd = False
    while bits:
        # This takes the lowest bit that is 1 away.
        bits &= bits - 1
        odd = not odd
    return odd


def sums_without(sums, place):
    """The sums with the live dot at this place gone through."""
    found = {}
    low_bits = (1 << place) - 1
    for key, exact in sums.items():
        rest = (key & low_bits) | ((key >> (place + 1)) << place)
        found[rest] = exact_sum(found.get(rest, NOUGHT), exact)
    return found


def table_of_sums(web, live, sums):
    """The table of the sums by the bits of the live dots, which are the ins and outs."""
    _, _, ins, outs = web
    rows = [[NOUGHT] * (1 << len(ins)) for _ in range(1 << len(outs))]
    for key, exact in sums.items():
        rows[number_at(outs, live, key)][number_at(ins, live, key)] = exact
    return one_form(len(outs), len(ins), 0, rows)


def number_at(ends, live, key):
    """The number of the row of bits that a key tells for ins or outs."""
    return sum(1 << place for place, dot in enumerate(ends) if key >> live.index(dot) & 1)
