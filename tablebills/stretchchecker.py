"""A checker of FULL STRETCHES."""

from tablebills.errors import NoPaper
from tablebills.jobs import excess
from tablebills.kinds import are_counts


def lets_full(jobs, fires, thing):
    """By how many pieces the STRETCH is FULL."""
    if not are_counts(thing, 2) or thing[0] > thing[1]:
        raise NoPaper("shape", -1)
    begin, end = thing
    over = excess(jobs, fires, begin, end)
    if over <= 0:
        raise NoPaper("full", -1)
    return over
