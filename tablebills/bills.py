"""Bills of SEATS."""

from tablebills.accounts import account
from tablebills.walking import sitting


class Bill:
    """A bill: a SEAT, and the rows (name, word, pence) that it pays."""

    def __init__(self, seat, rows=None):
        self.seat = seat
        self.entries = () if rows is None else tuple(rows)

    def called(self):
        """The SEAT."""
        return self.seat

    def rows(self):
        """The rows."""
        return self.entries

    def total(self):
        """All pence, added."""
        return sum([pence for name, word, pence in self.entries])

    def __eq__(self, other):
        return isinstance(other, Bill) and self.seat == other.seat and self.entries == other.entries

    def __len__(self):
        return len(self.entries)

    def __str__(self):
        if len(self.entries) == 0:
            return f"{self.seat}: 0"
        return f"{self.seat}: {self.total()} in {len(self.entries)}"


def bill_of(house, book, seat):
    """The bill of the ACCOUNT of the SEAT, any thing."""
    return Bill(seat, account(house, book, seat))


def bills_of(house, book, table=""):
    """The bills of all who sit at the TABLE, of all who are gone where it is ""."""
    return [bill_of(house, book, seat) for seat, place in sitting(house, book) if place == table]
