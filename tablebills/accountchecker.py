"""A checker of ACCOUNTS."""

from tablebills.accounts import account
from tablebills.deeds import is_name
from tablebills.errors import NoPaper
from tablebills.kinds import is_number, is_tuple_of


def lets_account(house, book, seat, thing):
    """What the SEAT, any thing, OWES, where the thing is its ACCOUNT."""
    rows = account(house, book, seat)
    if not isinstance(thing, tuple):
        raise NoPaper("shape", -1)
    for at, row in enumerate(thing):
        look_at_entry(rows, at, row)
    if len(thing) < len(rows):
        raise NoPaper("few", -1)
    return sum([pence for name, word, pence in rows])


def look_at_entry(rows, at, row):
    """Refuses what isn't the row of the ACCOUNT in this place."""
    if not is_tuple_of(row, 3):
        raise NoPaper("row", at)
    if at >= len(rows):
        raise NoPaper("more", at)
    name, word, pence = rows[at]
    # Python finds True and 1 alike, so the kinds are looked at, too.
    if not is_name(row[0]) or row[0] != name:
        raise NoPaper("name", at)
    if row[1] != word:
        raise NoPaper("word", at)
    if not is_number(row[2]) or row[2] != pence:
        raise NoPaper("pence", at)
