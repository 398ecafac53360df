"""Whether two plans have the same map, up to a unit."""

from lookundone.errors import need
from lookundone.likeness import alike
from lookundone.plankinds import is_plan
from lookundone.plansums import map_of


def maps_alike(first, second):
    """The turn whose unit times the map of second is that of first, None if they are not alike."""
    need(is_plan(second), "second")
    return alike(map_of(first), map_of(second))
