"""Which course may be fired, and what was."""

from tablebills.walking import asked_at, barring, walked


def barred(house, book, table, course=0):
    """The DISHES that bar the course of the TABLE."""
    return tuple(barring(walked(house, book), table, course))


def may_fire(house, book, table, course=0):
    """Whether the course of the TABLE MAY be fired."""
    walk = walked(house, book)
    return len(asked_at(walk, table, course)) > 0 and len(barring(walk, table, course)) == 0


def firings(house, book):
    """The FIRINGS, in order."""
    return tuple(walked(house, book).firings)
