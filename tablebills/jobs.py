"""JOBS of a kitchen."""

from tablebills.kinds import are_counts


def is_jobs(thing):
    """Whether the thing is JOBS."""
    return isinstance(thing, tuple) and all([is_job(job) for job in thing])


def is_job(thing):
    """Whether the thing is a JOB."""
    return are_counts(thing, 3) and thing[0] <= thing[1]


def within(jobs, begin, end):
    """The pieces of all JOBS WITHIN, added."""
    return sum([pieces for starts, ends, pieces in jobs if begin <= starts and ends <= end])


def later_jobs(jobs, by=1):
    """The JOBS LATER by this."""
    return tuple([(begin, end + by, pieces) for begin, end, pieces in jobs])


def excess(jobs, fires, begin, end):
    """By how many pieces the STRETCH is FULL; 0 or below where it isn't."""
    return within(jobs, begin, end) - fires * (end - begin)


def stretches(jobs):
    """The STRETCHES from a JOB's begin to a JOB's end, rising: where any is FULL, one of these is."""
    begins = sorted(set([begin for begin, end, pieces in jobs]))
    ends = sorted(set([end for begin, end, pieces in jobs]))
    return [(begin, end) for begin in begins for end in ends if begin <= end]


def full_stretches(jobs, fires):
    """Those of these STRETCHES that are FULL, rising."""
    return [(begin, end) for begin, end in stretches(jobs) if excess(jobs, fires, begin, end) > 0]
