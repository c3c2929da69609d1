"""A checker of LATE PAPERS."""

from tablebills.errors import NoPaper
from tablebills.jobs import later_jobs
from tablebills.kinds import is_count, is_tuple_of
from tablebills.rowchecker import lets_row
from tablebills.stretchchecker import lets_full


def lets_late(jobs, fires, thing):
    """The late of the LATE PAPER, which is the LATENESS."""
    if not is_tuple_of(thing, 3) or not is_count(thing[0]):
        raise NoPaper("shape", -1)
    late, row, stretch = thing
    look_at_row(later_jobs(jobs, late), fires, row)
    if late > 0:
        look_at_stretch(later_jobs(jobs, late - 1), fires, stretch)
    elif stretch is not None:
        raise NoPaper("stretch", -1)
    return late


def look_at_row(jobs, fires, thing, some=False):
    """How many pieces the ROW or PART ROW has that is a part of a paper."""
    try:
        return lets_row(jobs, fires, thing, some)
    except NoPaper:
        raise NoPaper("row", -1) from None


def look_at_stretch(jobs, fires, thing, at=-1):
    """By how many pieces the STRETCH is FULL that is a part of a paper, in this place."""
    try:
        return lets_full(jobs, fires, thing)
    except NoPaper:
        raise NoPaper("stretch", at) from None
