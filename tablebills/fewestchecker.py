"""A checker of FIRES PAPERS."""

from tablebills.errors import NoPaper
from tablebills.kinds import is_count, is_tuple_of
from tablebills.latechecker import look_at_row, look_at_stretch


def lets_fewest(jobs, thing):
    """The fires of the FIRES PAPER, which are the FEWEST FIRES."""
    if not is_tuple_of(thing, 3) or not is_count(thing[0]) or thing[0] == 0:
        raise NoPaper("shape", -1)
    fires, row, stretch = thing
    look_at_row(jobs, fires, row)
    if fires > 1:
        look_at_stretch(jobs, fires - 1, stretch)
    elif stretch is not None:
        raise NoPaper("stretch", -1)
    return fires
