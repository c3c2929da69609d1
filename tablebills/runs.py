"""RUNS of DISHES that are asked for the same SEATS, and SHARES."""

from tablebills.walking import begins, known_dish, shares_by, walked


def run(house, book, seats):
    """The RUN of these SEATS: DISHES, and where each begins and ends in it."""
    walk = walked(house, book)
    begun = begins(walk)
    return tuple([(number, begun[number], begun[number] + walk.dishes[number].cost)
                  for number in walk.dishes if walk.dishes[number].seats == seats])


def shares_of(house, book, dish):
    """The SHARES of the DISH, any thing."""
    walk = walked(house, book)
    found = known_dish(walk, dish)
    return tuple(zip(found.seats, shares_by(found, begins(walk)[dish])))
