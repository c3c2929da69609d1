"""ACCOUNTS: what made up what a SEAT has TO PAY."""

from tablebills.walking import account_by, known_seat, walked


def account(house, book, seat):
    """The ACCOUNT of the SEAT, any thing."""
    walk = walked(house, book)
    # A PAGE has one row at the most, so the names alone make the order.
    return tuple(sorted(account_by(walk, known_seat(walk, seat))))
