"""The most that a kitchen can have ready in time."""

from tablebills.jobs import excess, full_stretches
from tablebills.kitchen import laid


def most(jobs, fires=1):
    """A MOST PAPER of the JOBS by FIRES."""
    return laid(jobs, fires), worst_apart(jobs, fires)


def most_laid(jobs, fires=1):
    """How many pieces a MOST PAPER lays."""
    return sum([pieces for minute, job, pieces in laid(jobs, fires)])


def worst_apart(jobs, fires):
    """FULL STRETCHES that lie apart, such that as many pieces as can be are too many in them, added."""
    # For each FULL STRETCH the worst that ends with it. They come by their begins, so all that can stand
    # ahead of one have come ahead of it.
    chains = [(0, ())]
    for begin, end in full_stretches(jobs, fires):
        over, ahead = worst([chain for chain in chains if chain[1] == () or chain[1][-1][1] < begin])
        chains.append((over + excess(jobs, fires, begin, end), ahead + ((begin, end),)))
    return worst(chains)[1]


def worst(chains):
    """The one of these that has the most pieces too many."""
    return max(chains, key=lambda chain: chain[0])
