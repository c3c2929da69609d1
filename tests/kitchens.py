"""JOBS to go through, and what can be done with them, told by trying alone."""

import itertools
import random


def small_jobs(most_jobs, last_minute, most_pieces):
    """All JOBS of so many at the most, up to the order, each with minutes and pieces up to these."""
    each = [(begin, end, pieces) for begin in range(last_minute + 1) for end in range(begin, last_minute + 1)
            for pieces in range(most_pieces + 1)]
    for many in range(most_jobs + 1):
        for jobs in itertools.combinations_with_replacement(each, many):
            yield jobs


def chance_jobs(seed, many, last_minute, most_pieces):
    """JOBS as a dice told them, the same ones of the same seed."""
    dice = random.Random(seed)
    jobs = []
    for job in range(dice.randint(0, many)):
        begin, end = sorted((dice.randint(0, last_minute), dice.randint(0, last_minute)))
        jobs.append((begin, end, dice.randint(0, most_pieces)))
    return tuple(jobs)


def most_by_trying(jobs, fires):
    """The most pieces that a PART ROW has: piece by piece, places exchanged wherever that makes room."""
    holders = {}

    def finds_place(piece, begin, end, seen):
        for place in itertools.product(range(begin, end), range(fires)):
            if place in seen:
                continue
            seen.add(place)
            if place not in holders or finds_place(*holders[place], seen):
                holders[place] = (piece, begin, end)
                return True
        return False

    for job, (begin, end, pieces) in enumerate(jobs):
        for piece in range(pieces):
            if not finds_place((job, piece), begin, end, set()):
                break
    return len(holders)


def has_row(jobs, fires):
    return most_by_trying(jobs, fires) == sum(job[2] for job in jobs)
