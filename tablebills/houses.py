"""HOUSES."""

from tablebills.kinds import is_count, is_tuple_of
from tablebills.menus import is_menu, is_offs


def is_house(thing):
    """Whether the thing is a HOUSE."""
    return (is_tuple_of(thing, 4) and is_menu(thing[0]) and is_offs(thing[1])
            and is_count(thing[2]) and is_count(thing[3]) and thing[3] > 0)
