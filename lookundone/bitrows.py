"""Rows of bits told by numbers, and their sums by 2."""

from lookundone.kinds import is_number


def are_rows(thing):
    """True if thing is a tuple of numbers."""
    return isinstance(thing, tuple) and all(is_number(part) for part in thing)


def parity(number):
    """1 if the number has an odd number of places, else 0."""
    return len(places_of(number)) % 2


def places_of(number):
    """The places of the number, ascending."""
    return tuple(place for place in range(number.bit_length()) if number >> place & 1)


def number_of_places(places):
    """The number with just these places."""
    return sum([1 << place for place in places])


def sum_of_rows(rows):
    """The sum of all rows, by 2."""
    total = 0
    for row in rows:
        total ^= row
    return total


def rows_at(rows, number):
    """The rows at the places of the number."""
    return [row for place, row in enumerate(rows) if number >> place & 1]
