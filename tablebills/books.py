"""BOOKS of PAGES."""

from tablebills.deeds import is_page
from tablebills.errors import NoPage
from tablebills.kinds import rises


def is_book(thing):
    """Whether the thing is a BOOK."""
    return (isinstance(thing, tuple) and all([is_page(page) for page in thing])
            and rises([page[0] for page in thing]))


def book_of(pages):
    """The BOOK that has each of these PAGES once."""
    deeds = {}
    for name, deed in pages:
        if deeds.get(name, deed) != deed:
            raise NoPage("twice")
        deeds[name] = deed
    return tuple([(name, deeds[name]) for name in sorted(deeds)])


def until(book, minute):
    """The BOOK of the PAGES of minutes no greater than this."""
    return tuple([page for page in book if page[0][0] <= minute])
