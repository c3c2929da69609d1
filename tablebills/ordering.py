"""The JOBS that a kitchen has by a BOOK."""

from tablebills.kitchen import kitchen
from tablebills.menus import minutes_of
from tablebills.walking import walked


def jobs_of(house, book):
    """The names of the PAGES of which some DISHES are FIRED still, and a JOB for each."""
    menu, offs, wait, fires = house
    walk = walked(house, book)
    names = []
    jobs = []
    for name, word, table, course, numbers, bars in walk.firings:
        still = [walk.dishes[number].item for number in numbers if walk.dishes[number].state == "fired"]
        if still:
            names.append(name)
            jobs.append((name[0], name[0] + wait, sum([minutes_of(menu, item) for item in still])))
    return tuple(names), tuple(jobs)


def row_of(house, book):
    """A ROW of these JOBS by the fires of the HOUSE, or a STRETCH that is FULL."""
    return kitchen(jobs_of(house, book)[1], house[3])
