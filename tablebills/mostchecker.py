"""A checker of MOST PAPERS."""

from tablebills.errors import NoPaper
from tablebills.kinds import is_tuple_of
from tablebills.latechecker import look_at_row, look_at_stretch


def lets_most(jobs, fires, thing):
    """How many pieces the row of the MOST PAPER has: no PART ROW has more."""
    if not is_tuple_of(thing, 2) or not all([isinstance(part, tuple) for part in thing]):
        raise NoPaper("shape", -1)
    row, stretches = thing
    laid = look_at_row(jobs, fires, row, True)
    over = 0
    for at, stretch in enumerate(stretches):
        over += look_at_stretch(jobs, fires, stretch, at)
        if at > 0 and stretch[0] <= stretches[at - 1][1]:
            raise NoPaper("stretch", at)
    if sum([pieces for begin, end, pieces in jobs]) - laid != over:
        raise NoPaper("many", -1)
    return laid
