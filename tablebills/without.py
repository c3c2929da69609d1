"""What would be without a DISH."""

from tablebills.errors import NoDish
from tablebills.walking import LIVING, begins, known_dish, shares_by, to_pay_by, walked


def backed(house, book, dish):
    """What each SEAT of the DISH, any thing, OWES, and would OWE if it were sent BACK or STRUCK next."""
    walk = walked(house, book)
    found = known_dish(walk, dish)
    if found.state not in LIVING:
        raise NoDish(dish)
    rows = []
    for seat, share in zip(found.seats, shares_by(found, begins(walk)[dish])):
        now = to_pay_by(walk, seat)
        rows.append((seat, now, now - share))
    return tuple(rows)
