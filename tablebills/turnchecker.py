"""A checker of FIRINGS."""

from tablebills.deeds import is_name
from tablebills.errors import NoPaper
from tablebills.kinds import is_number, is_tuple_of, is_word, rises
from tablebills.turns import firings


def lets_turns(house, book, thing):
    """How many DISHES the FIRINGS have as dishes."""
    if not isinstance(thing, tuple):
        raise NoPaper("shape", -1)
    rows = firings(house, book)
    for at, row in enumerate(thing):
        look_at_firing(rows, at, row)
    if len(thing) < len(rows):
        raise NoPaper("few", len(thing))
    return sum([len(row[4]) for row in thing])


def look_at_firing(rows, at, row):
    """Refuses what isn't the FIRING in this place."""
    if not is_firing(row):
        raise NoPaper("row", at)
    if at >= len(rows):
        raise NoPaper("more", at)
    if row[:4] != rows[at][:4]:
        raise NoPaper("page", at)
    if row[4] != rows[at][4]:
        raise NoPaper("dishes", at)
    if row[5] != rows[at][5]:
        raise NoPaper("barring", at)


def is_firing(thing):
    """Whether the thing is a row of FIRINGS, by kind alone."""
    return (is_tuple_of(thing, 6) and is_name(thing[0]) and isinstance(thing[1], str) and is_word(thing[2])
            and is_number(thing[3]) and are_rising_numbers(thing[4]) and are_rising_numbers(thing[5]))


def are_rising_numbers(thing):
    """Whether the thing is a rising tuple of NUMBERS, perhaps ()."""
    return isinstance(thing, tuple) and all([is_number(part) for part in thing]) and rises(thing)
