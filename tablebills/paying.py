"""What is TO PAY."""

from tablebills.books import until
from tablebills.walking import LIVING, known_seat, to_pay_by, walked


def to_pay(house, book, minute=None):
    """What each KNOWN SEAT has TO PAY, by the PAGES up to the minute."""
    walk = walked(house, up_to(book, minute))
    return tuple([(seat, to_pay_by(walk, seat)) for seat in sorted(walk.tables)])


def owes(house, book, seat, minute=None):
    """How much the SEAT, any thing, OWES by the PAGES up to the minute."""
    walk = walked(house, up_to(book, minute))
    return to_pay_by(walk, known_seat(walk, seat))


def up_to(book, minute):
    """The BOOK of the PAGES up to the minute, of all where it is None."""
    return book if minute is None else until(book, minute)


def sums(house, book):
    """The COSTS of all DISHES that LIVE, all that was paid, all that is TO PAY, each added."""
    walk = walked(house, book)
    costs = [dish.cost for dish in walk.dishes.values() if dish.state in LIVING]
    paid = [-pence for name, word, seat, pence in walk.entries if word == "paid"]
    left = [to_pay_by(walk, seat) for seat in walk.tables]
    return sum(costs), sum(paid), sum(left)
