"""How late a kitchen comes at the least."""

from tablebills.jobs import later_jobs, stretches, within
from tablebills.kitchen import kitchen


def lateness(jobs, fires=1):
    """The LATENESS of the JOBS by FIRES."""
    return max([0] + [minutes_for(within(jobs, begin, end), fires) - (end - begin)
                      for begin, end in stretches(jobs)])


def minutes_for(pieces, fires):
    """How many minutes the pieces want at the least."""
    return (pieces + fires - 1) // fires


def late_paper(jobs, fires=1):
    """A LATE PAPER of the JOBS by FIRES."""
    late = lateness(jobs, fires)
    row = kitchen(later_jobs(jobs, late), fires)[1]
    stretch = None if late == 0 else kitchen(later_jobs(jobs, late - 1), fires)[1]
    return late, row, stretch
