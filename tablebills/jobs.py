"""JOBS of a kitchen."""

from tablebills.kinds import are_counts


def is_jobs(thing):
    """Whether the thing is JOBS."""
    return isinstance(thing, tuple) and all([is_job(job) for job in thing])


def is_job(thing):
    """Whether the thing is a JOB."""
    return are_counts(thing, 3) and thing[0] <= thing[1]


def within(jobs, begin, end):
    """The pieces of all JOBS WITHIN, added."""
    return sum([pieces for starts, ends, pieces in jobs if begin <= starts and ends <= end])


def later_jobs(jobs, by=1):
    """The JOBS LATER by this."""
    return tuple([(begin, end + by, pieces) for begin, end, pieces in jobs])
