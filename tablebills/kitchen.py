"""Whether a kitchen can have all ready in time."""

from tablebills.jobs import full_stretches


def kitchen(jobs, fires=1):
    """("row", a ROW), or ("full", a STRETCH that is FULL)."""
    # Where no STRETCH from a begin to an end is FULL, laying the least end first is never late.
    full = full_stretches(jobs, fires)
    if full:
        return "full", full[0]
    return "row", laid(jobs, fires)


def laid(jobs, fires):
    """A PART ROW of the most pieces: minute by minute those of the least end go first."""
    left = [pieces for begin, end, pieces in jobs]
    rows = []
    minute = next_minute(jobs, left, 0)
    while minute is not None:
        room = fires
        turn = waiting(jobs, left, minute)
        for job in turn:
            pieces = min(room, left[job])
            if pieces > 0:
                rows.append((minute, job, pieces))
            left[job] -= pieces
            room -= pieces
        minute = next_minute(jobs, left, minute + 1)
    return tuple(sorted(rows))


def next_minute(jobs, left, least):
    """The first minute, none below the least, that something can be laid at; None where none is."""
    minutes = [max(begin, least) for (begin, end, pieces), still in zip(jobs, left)
               if still > 0 and max(begin, least) < end]
    return min(minutes, default=None)


def waiting(jobs, left, minute):
    """The JOBS, by their places, that can be laid at this minute, the least end first."""
    ends = [(end, job) for job, (begin, end, pieces) in enumerate(jobs)
            if left[job] > 0 and begin <= minute < end]
    return [job for end, job in sorted(ends)]
