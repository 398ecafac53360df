"""Which sums rows have, and what shows that they have not a sum."""

from lookundone.bitrows import parity, places_of, sum_of_rows
from lookundone.errors import InvalidPaper, need
from lookundone.kinds import is_ascending, is_number, is_number_below, is_tuple_of


def lessened(leads, number, chosen):
    """The number with no place at which a lead stands, and chosen with the rows that were added to it.

    Leads are triples (place_bit, number, chosen): number has the place at which the lead stands, told as a number with
    this place alone, no other lead's number has it, and it is the sum of the rows at the places of chosen.
    """
    for place_bit, lead, lead_chosen in leads:
        if number & place_bit:
            number ^= lead
            chosen ^= lead_chosen
    return number, chosen


def with_lead(leads, number, chosen):
    """The leads with one more, of a number that is not nought and was lessened by them."""
    place_bit = number & -number
    found = []
    for lead_bit, lead, lead_chosen in leads:
        if lead & place_bit:
            lead ^= number
            lead_chosen ^= chosen
        found.append((lead_bit, lead, lead_chosen))
    found.append((place_bit, number, chosen))
    return found


def leads_of(rows):
    """Leads that have the same sums as the rows."""
    leads = []
    for k, row in enumerate(rows):
        number, chosen = lessened(leads, row, 1 << k)
        if number:
            leads = with_lead(leads, number, chosen)
    return leads


def bar_against(leads, number):
    """A bar against a number that is not nought and was lessened by the leads."""
    bit = number & -number
    return sum_of_rows([bit, *[place_bit for place_bit, lead, _ in leads if lead & bit]])


def solve_rows(rows, target):
    """Places of rows with the sum target, or a bar against it."""
    need(is_number(target), "target")
    leads = leads_of(rows)
    number, chosen = lessened(leads, target, 0)
    if number == 0:
        return ("sum", places_of(chosen))
    return ("bar", bar_against(leads, number))


def lets_solved(rows, target, thing):
    """The first value of thing, a sum or a bar."""
    need(is_number(target), "target")
    if not (is_tuple_of(2, thing) and thing[0] in ("sum", "bar")):
        raise InvalidPaper("shape", -1)
    word, told = thing
    if word == "sum":
        check_sum(rows, target, told)
    else:
        check_bar(rows, target, told)
    return word


def check_sum(rows, target, places):
    """Refuse places that have not the sum."""
    is_places = isinstance(places, tuple) and all(is_number_below(len(rows), place) for place in places)
    if not (is_places and is_ascending(places)):
        raise InvalidPaper("places", -1)
    if sum_of_rows([rows[place] for place in places]) != target:
        raise InvalidPaper("sum", -1)


def check_bar(rows, target, number):
    """Refuse a number that bars no sum."""
    if not is_number(number):
        raise InvalidPaper("bar", -1)
    for k, row in enumerate(rows):
        if parity(row & number):
            raise InvalidPaper("row", k)
    if not parity(target & number):
        raise InvalidPaper("target", -1)
