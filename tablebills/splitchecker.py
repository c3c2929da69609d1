"""A checker of splits."""

from tablebills.errors import NoPaper
from tablebills.kinds import is_number, is_tuple_of
from tablebills.splitting import cuts, rests


def lets_split(total, weights, thing):
    """How far the thing, which splits the total RIGHTLY, is OFF."""
    if not is_tuple_of(thing, len(weights)):
        raise NoPaper("shape", -1)
    for at, part in enumerate(thing):
        if not is_number(part):
            raise NoPaper("number", at)
    if sum(thing) != total:
        raise NoPaper("sum", -1)
    look_at_cuts(cuts(total, weights), thing)
    look_at_rests(cuts(total, weights), rests(total, weights), thing)
    whole = sum(weights)
    return sum([abs(part * whole - total * weight) for weight, part in zip(weights, thing)])


def look_at_cuts(lows, parts):
    """Refuses the first part that is neither its CUT nor one more."""
    for at, part in enumerate(parts):
        if part != lows[at] and part != lows[at] + 1:
            raise NoPaper("cut", at)


def look_at_rests(lows, left, parts):
    """Refuses the first part that has one more, where a greater REST has not."""
    short = [rest for low, rest, part in zip(lows, left, parts) if part == low]
    for at, part in enumerate(parts):
        if part > lows[at] and any([rest > left[at] for rest in short]):
            raise NoPaper("rest", at)
