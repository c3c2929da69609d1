"""BOOKS by other names, BOOKS and HOUSES at later minutes."""

from tablebills.shapes import LEAST_SEATS, PLACES


def renamed(book, words=None, later=0):
    """The BOOK by the newer names, each minute greater by later."""
    newer = {} if words is None else dict(words)
    return tuple([((minute + later, number), renamed_deed(deed, newer))
                  for (minute, number), deed in book])


def renamed_deed(deed, newer):
    """The DEED by the newer names."""
    parts = [deed[0]]
    for place, part in zip(PLACES[deed[0]], deed[1:]):
        parts.append(renamed_part(place, part, newer))
    return tuple(parts)


def renamed_part(place, part, newer):
    """What stands in this place, by the newer names; ITEMS may be called like SEATS, and stay."""
    if place in LEAST_SEATS:
        return tuple([newer.get(seat, seat) for seat in part])
    if place in ("seat", "table", "other"):
        return newer.get(part, part)
    return part


def house_later(house, later=0):
    """The HOUSE whose prices and OFFS turn later."""
    menu, offs, wait, fires = house
    rows = [(item, minutes, later_prices(prices, later)) for item, minutes, prices in menu]
    cheaper = [(items, start + later, until + later, percent) for items, start, until, percent in offs]
    return tuple(rows), tuple(cheaper), wait, fires


def later_prices(prices, later):
    """The prices with each from but 0 later: a first price holds from the first minute on."""
    return tuple([((start + later) if start > 0 else start, pence) for start, pence in prices])
