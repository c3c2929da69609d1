"""How many fires would do."""

from tablebills.errors import NoFires
from tablebills.jobs import stretches, within
from tablebills.kitchen import kitchen


def fewest_fires(jobs):
    """The FEWEST FIRES of the JOBS."""
    for begin, end, pieces in jobs:
        if begin == end and pieces > 0:
            raise NoFires((begin, end))
    return max([1] + [fires_for(within(jobs, begin, end), end - begin)
                      for begin, end in stretches(jobs) if begin < end])


def fires_for(pieces, minutes):
    """How many fires have so many pieces ready in so many minutes, at the least."""
    return (pieces + minutes - 1) // minutes


def fires_paper(jobs):
    """A FIRES PAPER of the JOBS."""
    fires = fewest_fires(jobs)
    row = kitchen(jobs, fires)[1]
    stretch = None if fires == 1 else kitchen(jobs, fires - 1)[1]
    return fires, row, stretch
