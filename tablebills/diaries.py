"""Diaries: PAGES told to a HOUSE, and taken back."""

from tablebills.books import book_of, is_book
from tablebills.errors import NoBack, NoPage
from tablebills.kinds import is_number
from tablebills.lines import shown_pages
from tablebills.paying import to_pay


class Diary:
    """A diary of a HOUSE."""

    def __init__(self, house):
        self.home = house
        # The PAGES that came by each of the STEPS.
        self.came = []
        # The BOOK as it was ahead of the last call that wasn't refused.
        self.ahead = ()

    def tell(self, page):
        """Whether the PAGE, any thing, comes now."""
        return len(self.bring((page,))) > 0

    def bring(self, book):
        """All PAGES of the BOOK, any thing, that aren't there come; their names."""
        if not is_book(book):
            raise NoPage("kind")
        there = self.book()
        new = pages_beside(there, book)
        self.ahead = there
        if new:
            self.came.append(new)
        return names_of(new)

    def back(self, times=1):
        """Undoes so many, any thing, of the last STEPS; the names of the PAGES that go."""
        if not is_number(times) or not 1 <= times <= len(self.came):
            raise NoBack(times)
        kept = len(self.came) - times
        gone = book_by(self.came[kept:])
        self.ahead = self.book()
        self.came = self.came[:kept]
        return names_of(gone)

    def house(self):
        """The HOUSE."""
        return self.home

    def book(self):
        """The BOOK of all PAGES."""
        return book_by(self.came)

    def steps(self):
        """How many STEPS there are."""
        return len(self.came)

    def until(self, name):
        """The BOOK of the PAGES of names no greater."""
        return tuple([page for page in self.book() if page[0] <= name])

    def then(self, k):
        """The BOOK behind the first k, any thing, of the STEPS."""
        if not is_number(k) or not 0 <= k <= len(self.came):
            raise NoPage("number")
        return book_by(self.came[:k])

    def turned(self):
        """The SEATS that have something else TO PAY by the last call that wasn't refused."""
        ahead = dict(to_pay(self.home, self.ahead))
        now = dict(to_pay(self.home, self.book()))
        seats = sorted(set(list(ahead) + list(now)))
        return tuple([seat for seat in seats if ahead.get(seat, 0) != now.get(seat, 0)])

    def __eq__(self, other):
        return isinstance(other, Diary) and self.home == other.home and self.book() == other.book()

    def __len__(self):
        return len(self.book())

    def __str__(self):
        return str(shown_pages(self.book()))


def book_by(steps):
    """The BOOK of the PAGES that came by these STEPS."""
    return book_of(tuple([page for step in steps for page in step]))


def pages_beside(there, book):
    """The PAGES of the BOOK that aren't there."""
    # Refuses one that has the name of an unlike one.
    book_of(there + book)
    return tuple([page for page in book if page not in there])


def names_of(pages):
    """The names of these PAGES."""
    return tuple([name for name, deed in pages])
