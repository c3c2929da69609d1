"""MENUS and OFFS, and what a MENU tells of an ITEM."""

from tablebills.errors import NoItem
from tablebills.kinds import are_counts, are_rising_words, is_count, is_tuple_of, is_word, rises

WHOLE = 100


def is_menu(thing):
    """Whether the thing is a MENU."""
    return (isinstance(thing, tuple) and len(thing) > 0 and all([is_menu_row(row) for row in thing])
            and rises([row[0] for row in thing]))


def is_menu_row(thing):
    """Whether the thing is a row of a MENU."""
    return is_tuple_of(thing, 3) and is_word(thing[0]) and is_count(thing[1]) and are_prices(thing[2])


def are_prices(thing):
    """Whether the thing is the prices of a row."""
    return (isinstance(thing, tuple) and len(thing) > 0 and all([are_counts(pair, 2) for pair in thing])
            and thing[0][0] == 0 and rises([pair[0] for pair in thing]))


def is_offs(thing):
    """Whether the thing is OFFS."""
    return isinstance(thing, tuple) and all([is_off(off) for off in thing])


def is_off(thing):
    """Whether the thing is an OFF; until may be below from: it never holds then."""
    return (is_tuple_of(thing, 4) and are_rising_words(thing[0]) and are_counts(thing[1:], 3)
            and thing[3] <= WHOLE)


def price(menu, item, minute=0):
    """The PRICE of the ITEM at this minute."""
    prices = menu_row(menu, item)[2]
    return [pence for start, pence in prices if start <= minute][-1]


def minutes_of(menu, item):
    """The minutes that the ITEM's dish wants on a fire."""
    return menu_row(menu, item)[1]


def menu_row(menu, item):
    """The row of this ITEM, any thing."""
    for row in menu:
        if row[0] == item:
            return row
    raise NoItem(item)
