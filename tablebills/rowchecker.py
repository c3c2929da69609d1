"""A checker of ROWS and PART ROWS."""

from tablebills.errors import NoPaper
from tablebills.kinds import is_number, is_tuple_of


def lets_row(jobs, fires, thing, some=False):
    """How many pieces the ROW has, or, where some is True, the PART ROW."""
    if not isinstance(thing, tuple):
        raise NoPaper("shape", -1)
    for at, row in enumerate(thing):
        if not is_laid(jobs, row) or (at > 0 and row[:2] <= thing[at - 1][:2]):
            raise NoPaper("row", at)
        begin, end, pieces = jobs[row[1]]
        if not begin <= row[0] < end:
            raise NoPaper("out", at)
    look_at_fires(fires, thing)
    look_at_jobs(jobs, thing, some)
    return sum([row[2] for row in thing])


def is_laid(jobs, thing):
    """Whether the thing lays a piece or more of one of the JOBS, at whatever minute."""
    return (is_tuple_of(thing, 3) and all([is_number(part) for part in thing])
            and 0 <= thing[1] < len(jobs) and thing[2] >= 1)


def look_at_fires(fires, rows):
    """Refuses the first minute that has too many pieces."""
    laid = {}
    for minute, job, pieces in rows:
        laid[minute] = laid.get(minute, 0) + pieces
    # The rows rise, so the minutes stand in the dict from the least on.
    for minute in laid:
        if laid[minute] > fires:
            raise NoPaper("fires", minute)


def look_at_jobs(jobs, rows, some):
    """Refuses the first JOB that has too many pieces, or, where some is False, too few."""
    for at, job in enumerate(jobs):
        laid = sum([row[2] for row in rows if row[1] == at])
        if laid > job[2] or (laid < job[2] and not some):
            raise NoPaper("many", at)
